"""Calls of functions in all ways in which their arguments may be passed, and what is to be so of each call."""

import inspect
import unittest

from evennets.errors import EvenError


class Calls(unittest.TestCase):
    def ways(self, function, arguments):
        """The same call by position, by name, by name the other way round, and mixed."""
        names = list(inspect.signature(function).parameters)
        named = dict(zip(names, arguments))
        self.assertEqual(len(names), len(arguments))
        return [
            lambda: function(*arguments), lambda: function(**named),
            lambda: function(**dict(reversed(list(named.items())))),
            lambda: function(*arguments[:-1], **{names[-1]: arguments[-1]})]

    def told(self, function, *arguments):
        """What the function returns, being the same in all ways and made of the kinds that the document lists."""
        before = repr(arguments)
        answers = [way() for way in self.ways(function, arguments)]
        self.assertEqual(repr(arguments), before)
        self.assertEqual(len({repr(answer) for answer in answers}), 1)
        self.assertEqual(answers, [answers[0]] * 4)
        if not isinstance(answers[0], bool):
            self.check_kinds(answers[0])
        return answers[0]

    def check_kinds(self, value):
        if type(value) is tuple:
            for part in value:
                self.check_kinds(part)
        else:
            self.assertIn(type(value), (int, str, type(None)))

    def caught(self, kind, function, arguments):
        """The attributes of the errors that the call raises in all ways, each of just this class."""
        before = repr(arguments)
        found = []
        for way in self.ways(function, arguments):
            with self.assertRaises(EvenError) as caught:
                way()
            self.assertIs(type(caught.exception), kind, (function, arguments))
            found.append(vars(caught.exception))
        self.assertEqual(repr(arguments), before)
        return found

    def refused(self, kind, given, function, *arguments):
        """The call raises the error, `given` being the very value that was passed."""
        for attributes in self.caught(kind, function, arguments):
            self.assertEqual(list(attributes), ["given"])
            self.assertIs(attributes["given"], given)

    def told_number(self, kind, name, number, function, *arguments):
        """The call raises the error, which tells just this number, or None."""
        for attributes in self.caught(kind, function, arguments):
            self.assertEqual(attributes, {name: number}, (function, arguments))
            self.assertIs(type(attributes[name]), type(number))

    def told_nothing(self, kind, function, *arguments):
        """The call raises the error, which has no attributes."""
        for attributes in self.caught(kind, function, arguments):
            self.assertEqual(attributes, {})

    def raises(self, wrong, function, *arguments):
        """The call raises what a `Wrong` tells."""
        if wrong.index is None:
            self.refused(wrong.kind, wrong.value, function, *arguments)
        else:
            self.told_number(wrong.kind, "index", wrong.index[0], function, *arguments)

    def check_wrong(self, function, right, *wrongs):
        """Each wrong value of each argument is told, alone and ahead of wrong values of all that stand behind it."""
        self.assertEqual(len(right), len(wrongs))
        for at, values in enumerate(wrongs):
            self.assertGreater(len(values), 0)
            behind = tuple(others[-1].value for others in wrongs[at + 1:])
            for wrong in values:
                self.raises(wrong, function, *right[:at], wrong.value, *right[at + 1:])
            for wrong in values[:3] + values[-3:]:
                self.raises(wrong, function, *right[:at], wrong.value, *behind)


class Wrong:
    """A wrong value, and the error that tells it, by the value itself or by an index."""

    def __init__(self, kind, value, index=None):
        self.kind, self.value, self.index = kind, value, index


def given(kind, values):
    """Each value is told as `given`."""
    return [Wrong(kind, value) for value in values]


def indexed(kind, *pairs):
    """Each value, told ahead of its index, is told by this."""
    return [Wrong(kind, value, (index,)) for value, index in pairs]
