"""What the document lists: each name stands in its file, with its parameters, as written."""

import ast
import importlib
import inspect
import pathlib
import unittest

PACKAGE = pathlib.Path(__file__).resolve().parent.parent / "evennets"

FUNCTIONS = {
    "figures": {"is_base": ["value"], "rank_of": ["base", "rows"], "ties_of": ["base", "rows"]},
    "nets": {"is_net": ["value"], "point_of": ["net", "start"], "place_of": ["net", "start"], "points_of": ["net"]},
    "boxes": {"box_count": ["net", "box"], "starts_in": ["net", "box"], "first_start": ["net", "box"]},
    "evens": {
        "is_even": ["net", "depths"], "empty_box": ["net", "depths"], "strength": ["net"], "loss": ["net"],
        "even_tops": ["net"]},
    "duals": {
        "shape_of": ["net", "word"], "stair_weight": ["net", "word"], "is_dual": ["net", "word"], "dual_base": ["net"],
        "least_word": ["net"], "net_with_dual": ["base", "words"], "are_same_points": ["net", "other"],
        "is_inside": ["net", "other"], "outside_start": ["net", "other"]},
    "shapes": {
        "words_within": ["net", "depths"], "begun_with_noughts": ["net", "depths"], "shape_count": ["net", "shape"],
        "lead_count": ["net", "lead"], "shape_counts": ["net"], "lead_counts": ["net"], "weight_counts": ["net"]},
}


class Interface(unittest.TestCase):
    def test_functions(self):
        for name, functions in FUNCTIONS.items():
            module = importlib.import_module(f"evennets.{name}")
            tree = ast.parse((PACKAGE / f"{name}.py").read_text())
            defined = [node.name for node in tree.body if isinstance(node, ast.FunctionDef)]
            for function, parameters in functions.items():
                self.assertIn(function, defined)
                signature = inspect.signature(getattr(module, function))
                self.assertEqual(list(signature.parameters), parameters)
                for parameter in signature.parameters.values():
                    self.assertIs(parameter.kind, inspect.Parameter.POSITIONAL_OR_KEYWORD)
                    self.assertIs(parameter.default, inspect.Parameter.empty)


if __name__ == "__main__":
    unittest.main()
