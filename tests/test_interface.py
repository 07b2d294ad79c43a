"""The names and the arguments of the interface, each defined in the file under which it stands."""

import importlib
import inspect
import unittest

FUNCTIONS = {
    "checks": {"is_integer": "value", "is_within": "value least most", "are_integers": "value",
               "is_name": "value", "setting_of": "value"},
    "papers": {"fixed": "value"},
    "rests": {"gcd_of": "numbers", "lcm_of": "numbers", "rest_of": "number m", "root_of": "factor number m",
              "both_rests": "one other"},
    "forms": {"is_form": "value", "form_of": "constant pairs", "names_in": "form", "factor_of": "form name",
              "plus": "one other", "times": "form number", "put": "form name other", "worth": "form setting"},
    "claims": {"is_claim": "value", "is_plain": "value", "free_in": "claim", "levels_of": "claim",
               "size_of": "claim", "put_in": "claim name form", "both": "claims", "either": "claims",
               "contrary": "claim"},
    "claim_texts": {"form_text": "form", "claim_text": "claim", "read_form": "text", "read_claim": "text"},
    "plain": {"holds": "plain setting", "thinned": "plain"},
    "marks": {"marks_of": "plain name", "period_of": "plain name"},
    "rows": {"is_row": "value", "number_by": "row setting", "rows_for": "plain name"},
}
CLASSES = {"papers": {"Paper": "self word *parts", "Denial": "self word *parts"}}


def arguments(function):
    return " ".join(str(parameter) for parameter in inspect.signature(function).parameters.values())


class InterfaceTest(unittest.TestCase):
    def test_functions(self):
        for module, functions in FUNCTIONS.items():
            loaded = importlib.import_module("claimduel." + module)
            for name, told in functions.items():
                function = getattr(loaded, name)
                self.assertEqual(arguments(function), told, name)
                self.assertEqual(function.__module__, loaded.__name__)

    def test_classes(self):
        for module, classes in CLASSES.items():
            loaded = importlib.import_module("claimduel." + module)
            for name, told in classes.items():
                made = getattr(loaded, name)
                self.assertEqual(arguments(made.__init__), told, name)
                self.assertEqual(made.__module__, loaded.__name__)


if __name__ == "__main__":
    unittest.main()
