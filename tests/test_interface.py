"""What the document lists: each name stands in its file, with its parameters, as written."""

import ast
import importlib
import inspect
import pathlib
import unittest

PACKAGE = pathlib.Path(__file__).resolve().parent.parent / "evennets"

FUNCTIONS = {
    "figures": {"is_base": ["value"], "rank_of": ["base", "rows"], "ties_of": ["base", "rows"]},
    "nets": {"is_net": ["value"], "point_of": ["net", "start"], "place_of": ["net", "start"], "points_of": ["net"]},
    "boxes": {"box_count": ["net", "box"], "starts_in": ["net", "box"], "first_start": ["net", "box"]},
    "evens": {
        "is_even": ["net", "depths"], "empty_box": ["net", "depths"], "strength": ["net"], "loss": ["net"],
        "even_tops": ["net"]},
    "duals": {
        "shape_of": ["net", "word"], "stair_weight": ["net", "word"], "is_dual": ["net", "word"], "dual_base": ["net"],
        "least_word": ["net"], "net_with_dual": ["base", "words"], "are_same_points": ["net", "other"],
        "is_inside": ["net", "other"], "outside_start": ["net", "other"]},
    "shapes": {
        "words_within": ["net", "depths"], "begun_with_noughts": ["net", "depths"], "shape_count": ["net", "shape"],
        "lead_count": ["net", "lead"], "shape_counts": ["net"], "lead_counts": ["net"], "weight_counts": ["net"]},
    "bounds": {
        "ball_size": ["base", "dimensions", "depth", "weight"], "barred_by": ["base", "width", "dimensions", "size"],
        "will_grow": ["base", "width", "dimensions", "size"], "grown_net": ["base", "width", "dimensions", "size"]},
    "waves": {
        "rests": ["net", "word"], "mean_error": ["net", "depths", "values"], "error_square": ["net", "gammas"],
        "gain": ["net", "shape"], "scrambled_square": ["net", "sums"]},
    "news": {
        "put_together": ["net", "other"], "stacked": ["net", "other"], "with_dimensions": ["net", "dimensions"],
        "cut_depth": ["net", "depth"], "stretched": ["net", "dimension", "number"], "scrambled": ["net", "lowers"],
        "led_starts": ["net", "table"]},
    "sequences": {
        "row_at": ["base", "polynomial", "place", "width"], "sequence_net": ["base", "polynomials", "depth", "width"],
        "sure_loss": ["base", "polynomials"], "tight_powers": ["base", "polynomials"],
        "pascal_net": ["base", "dimensions", "width"], "narrowed": ["net", "width"], "with_turned": ["net"]},
    "rules": {
        "is_rule": ["value"], "rule_net": ["rule"], "divides_word": ["rule", "word"],
        "quotient_degrees": ["base", "modulus", "polynomial"], "chain_strength": ["base", "modulus", "polynomial"],
        "best_multiplier": ["base", "modulus"]},
    "generators": {
        "is_generator": ["value"], "stream": ["generator", "start", "number"], "jumped": ["generator", "start", "steps"],
        "windows_net": ["generator", "windows"], "staircase": ["generator"],
        "parity_of": ["generator", "windows", "figures"], "round_of": ["generator", "start"],
        "is_one_round": ["generator"], "are_same_streams": ["generator", "start", "other", "begin"],
        "stray_start": ["generator", "other"]},
    "checker": {"accepts": ["claim", "paper"]},
    "certificates": {
        "certify_depths": ["net", "depths"], "certify_strength": ["net", "number"], "certify_word": ["net", "word"],
        "certify_inside": ["net", "other"], "certify_size": ["base", "width", "dimensions", "size"],
        "certify_error": ["net", "gammas"], "certify_windows": ["generator", "windows", "figures"],
        "certify_streams": ["generator", "start", "other", "begin"]},
}


class Interface(unittest.TestCase):
    def test_functions(self):
        for name, functions in FUNCTIONS.items():
            module = importlib.import_module(f"evennets.{name}")
            tree = ast.parse((PACKAGE / f"{name}.py").read_text())
            defined = [node.name for node in tree.body if isinstance(node, ast.FunctionDef)]
            for function, parameters in functions.items():
                self.assertIn(function, defined)
                signature = inspect.signature(getattr(module, function))
                self.assertEqual(list(signature.parameters), parameters)
                for parameter in signature.parameters.values():
                    self.assertIs(parameter.kind, inspect.Parameter.POSITIONAL_OR_KEYWORD)
                    self.assertIs(parameter.default, inspect.Parameter.empty)


if __name__ == "__main__":
    unittest.main()
