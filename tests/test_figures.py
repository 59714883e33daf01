"""Points 3 to 6 and evennets/figures.py: bases, ranks and ties."""

import itertools
import unittest

from evennets.errors import InvalidBase, InvalidRows
from evennets.figures import is_base, rank_of, ties_of
from tests.samples import (
    BASES, all_rows, any_values, are_in_stairs, made_rows, never_bases, searched_sums, searched_ties, sum_of)


class Bases(unittest.TestCase):
    def test_bases(self):
        for base in BASES:
            self.assertIs(is_base(base), True)
            self.assertIs(is_base(value=base), True)

    def test_only_these(self):
        self.assertEqual([number for number in range(-200, 200) if is_base(number)], list(BASES))

    def test_values_of_any_kind(self):
        for value in never_bases():
            self.assertIs(is_base(value), False)
            self.assertIs(is_base(value=value), False)


class RanksAndTies(unittest.TestCase):
    def check(self, base, rows):
        rank, ties = rank_of(base, rows), ties_of(base, rows)
        self.assertIs(type(rank), int)
        self.assertEqual(len(searched_sums(base, rows)), base ** rank, (base, rows))
        self.check_ties(base, rows, ties)
        self.assertEqual(len(ties), len(rows) - rank)
        searched = searched_ties(base, rows)
        if ties:
            self.assertEqual(searched_sums(base, ties), searched)
        self.assertEqual(len(searched), base ** len(ties), (base, rows))

    def check_ties(self, base, rows, ties):
        self.assertIs(type(ties), tuple)
        self.assertTrue(are_in_stairs(ties), (base, rows, ties))
        for tie in ties:
            self.assertIs(type(tie), tuple)
            self.assertEqual(len(tie), len(rows))
            self.assertTrue(all(type(figure) is int and 0 <= figure < base for figure in tie))
            self.assertFalse(any(sum_of(base, tie, rows)))

    def test_one_row_of_one_figure(self):
        for base in BASES:
            for figure in range(base):
                self.check(base, ((figure,),))
            self.assertEqual([rank_of(base, ((0,),)), ties_of(base, ((0,),))], [0, ((1,),)])
            self.assertEqual([rank_of(base, ((base - 1,),)), ties_of(base, ((base - 1,),))], [1, ()])

    def test_all_small_rows(self):
        for base, many, length in ((2, 3, 3), (2, 4, 2), (2, 1, 4), (3, 2, 2), (3, 3, 2), (3, 2, 3), (5, 2, 2)):
            for rows in itertools.product(tuple(all_rows(base, length)), repeat=many):
                self.check(base, rows)

    def test_rows_of_all_shapes(self):
        for base, most in ((2, 8), (3, 5), (5, 4), (7, 3)):
            for many in range(1, most + 1):
                for length in range(1, 7):
                    for seed in range(3):
                        self.check(base, made_rows(seed, base, many, length))

    def test_nought_same_and_bound_rows(self):
        for base in BASES:
            rows = made_rows("bound", base, 2, 4)
            nought = (0, 0, 0, 0)
            self.check(base, (nought, nought, nought))
            self.check(base, (nought, rows[0], nought))
            self.check(base, (rows[0], rows[0], rows[0]))
            self.check(base, (rows[0], rows[1], sum_of(base, (1, base - 1), rows)))
            self.check(base, (rows[1], sum_of(base, (base - 1,), rows[:1]), rows[0]))

    def test_rows_in_stairs(self):
        for base in BASES:
            self.check(base, ((1, 0, base - 1, 0), (0, 1, 1, 0), (0, 0, 0, 1)))
            self.check(base, ((0, 0, 1), (0, 1, 0), (1, 0, 0)))
            self.assertEqual(ties_of(base, ((0, 1), (1, 1), (1, 0)))[0], (1, base - 1, 1))

    def test_ties_by_hand(self):
        self.assertEqual(ties_of(7, ((1, 3), (2, 6), (0, 0), (5, 1))), ((1, 0, 0, 4), (0, 1, 0, 1), (0, 0, 1, 0)))
        self.assertEqual(ties_of(5, ((0,), (0,))), ((1, 0), (0, 1)))

    def test_sixty_rows_of_sixty_figures(self):
        for base in BASES:
            unit = tuple(tuple(int(at == other) for other in range(60)) for at in range(60))
            self.assertEqual([rank_of(base, unit), ties_of(base, unit)], [60, ()])
            same = ((1,) * 60,) * 60
            self.assertEqual(rank_of(base, same), 1)
            self.assertEqual(ties_of(base, same), tuple(row[:59] + (base - 1,) for row in unit[:59]))
            self.assertEqual(ties_of(base, ((0,) * 60,) * 60), unit)
            rows = made_rows("large", base, 30, 60)
            rows = rows + tuple(sum_of(base, tie, rows) for tie in made_rows("more", base, 30, 30))
            ties = ties_of(base, rows)
            self.check_ties(base, rows, ties)
            self.assertEqual(len(ties), 60 - rank_of(base, rows))
            self.assertGreaterEqual(len(ties), 30)

    def test_ties_may_be_passed_as_rows(self):
        for base in BASES:
            ties = ties_of(base, ((0,) * 60,) * 60)
            self.assertEqual([rank_of(base, ties), ties_of(base, ties)], [60, ()])

    def test_by_position_and_by_name(self):
        rows = ((1, 1), (1, 1))
        self.assertEqual([rank_of(2, rows=rows), rank_of(rows=rows, base=2)], [1, 1])
        self.assertEqual([ties_of(2, rows=rows), ties_of(rows=rows, base=2)], [((1, 1),)] * 2)


class WrongArguments(unittest.TestCase):
    def raised(self, kind, base, rows):
        """What both functions raise, by position and by name: always the same; the value that it keeps."""
        before = repr((base, rows))
        told = []
        for function in (rank_of, ties_of):
            for call in (lambda: function(base, rows), lambda: function(rows=rows, base=base)):
                with self.assertRaises(kind) as caught:
                    call()
                self.assertIs(type(caught.exception), kind)
                told.append(caught.exception.given if kind is InvalidBase else caught.exception.index)
        self.assertEqual(repr((base, rows)), before)
        self.assertTrue(all(value is told[0] for value in told))
        return told[0]

    def check_index(self, base, rows, index):
        told = self.raised(InvalidRows, base, rows)
        self.assertEqual(told, index)
        self.assertIs(type(told), type(index))

    def test_wrong_bases(self):
        for base in never_bases():
            self.assertIs(self.raised(InvalidBase, base, ((1, 0), (1, 1))), base)

    def test_wrong_base_ahead_of_wrong_rows(self):
        for base in (0, 1, 4, 9, -2, True, None, "2", [2], (2,)):
            for rows in (None, (), [(1,)], ((),), ((9,),)):
                self.assertIs(self.raised(InvalidBase, base, rows), base)

    def test_no_tuple_of_rows(self):
        for base in BASES:
            for rows in any_values():
                if not isinstance(rows, tuple):
                    self.check_index(base, rows, None)
            for rows in ((), [(1,), (0,)], [], {(1,): 1}, "10"):
                self.check_index(base, rows, None)

    def test_wrong_rows_at_every_index(self):
        wrong = [
            (), [1, 0], [], "10", b"10", None, 1, True, {1: 0}, range(2), (0,), (1, 0, 0), (0,) * 60, (0,) * 61,
            (1, -1), (-1, 0), (True, 0), (0, False), (1, None), ("1", 0), ((1,), 0), ([1], 0), (1, 10 ** 399)]
        for base in BASES:
            for row in wrong + [(0, base), (base, 0), (base + 1, 1)]:
                for many in (2, 3, 60):
                    for index in (0, 1, many - 1):
                        rows = [(1, base - 1)] * many
                        rows[index] = row
                        if index == 0 and isinstance(row, tuple) and row in ((0,), (1, 0, 0), (0,) * 60):
                            self.check_index(base, tuple(rows), 1)
                        else:
                            self.check_index(base, tuple(rows), index)

    def test_any_value_as_a_row(self):
        for row in any_values():
            self.check_index(2, (row,), 0)
            self.check_index(2, ((1, 1), row, (1, 1)), 1)

    def test_any_value_as_a_figure(self):
        for figure in any_values():
            if type(figure) is not int or not 0 <= figure < 7:
                self.check_index(7, ((0, figure),), 0)
                self.check_index(7, ((0, 1), (1, figure)), 1)

    def test_lengths_at_the_bounds(self):
        for base in BASES:
            self.assertEqual(rank_of(base, ((1,) * 60,)), 1)
            self.check_index(base, ((1,) * 61,), 0)
            self.check_index(base, ((1,) * 60, (1,) * 61), 1)
            self.check_index(base, ((1,) * 60, (1,) * 59), 1)
            self.check_index(base, ((1,) * 10 ** 5,), 0)

    def test_numbers_of_rows_at_the_bounds(self):
        for base in BASES:
            self.assertEqual(rank_of(base, ((0, 1),) * 60), 1)
            self.check_index(base, ((0, 1),) * 61, 60)
            self.check_index(base, ((0, 1),) * 60 + (None,), 60)
            self.check_index(base, ((0, 1),) * 59 + (None, (0, 1)), 59)
            self.check_index(base, ((0, 1),) * 10 ** 5, 60)

    def test_two_wrong_rows(self):
        self.check_index(2, ((1, 0), (2, 0), (3, 0)), 1)
        self.check_index(2, ((1, 0), (1,), None), 1)
        self.check_index(2, ([1], (1,), ()), 0)
        self.check_index(2, ((1,), (1, 0), (1, 0)), 1)

    def test_figures_of_one_base_are_none_of_a_lesser_one(self):
        self.assertEqual(rank_of(7, ((1, 6),)), 1)
        self.check_index(5, ((1, 6),), 0)
        self.check_index(2, ((1, 0), (1, 2)), 1)

    def test_equal_calls_return_equal_results(self):
        for base in BASES:
            rows = made_rows("equal", base, 6, 4)
            again = tuple(tuple(list(row)) for row in rows)
            self.assertEqual(ties_of(base, rows), ties_of(base, again))
            self.assertEqual(rank_of(base, rows), rank_of(base, again))
            self.assertEqual(rows, again)


if __name__ == "__main__":
    unittest.main()
