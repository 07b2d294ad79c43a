"""The names and the arguments of the interface, each defined in the file under which it stands."""

import importlib
import inspect
import unittest

FUNCTIONS = {
    "checks": {"is_integer": "value", "is_within": "value least most", "are_integers": "value",
               "is_name": "value", "setting_of": "value"},
    "papers": {"fixed": "value"},
    "rests": {"gcd_of": "numbers", "lcm_of": "numbers", "rest_of": "number m", "root_of": "factor number m",
              "both_rests": "one other"},
    "forms": {"is_form": "value", "form_of": "constant pairs", "names_in": "form", "factor_of": "form name",
              "plus": "one other", "times": "form number", "put": "form name other", "worth": "form setting"},
    "claims": {"is_claim": "value", "is_plain": "value", "free_in": "claim", "levels_of": "claim",
               "size_of": "claim", "put_in": "claim name form", "both": "claims", "either": "claims",
               "contrary": "claim"},
    "claim_texts": {"form_text": "form", "claim_text": "claim", "read_form": "text", "read_claim": "text"},
    "plain": {"holds": "plain setting", "thinned": "plain"},
    "marks": {"marks_of": "plain name", "period_of": "plain name"},
    "layouts": {"right_for": "plain name setting"},
    "rows": {"is_row": "value", "number_by": "row setting", "rows_for": "plain name"},
    "struck": {"struck": "plain name", "struck_endless": "plain name", "all_struck": "plain names",
               "far_at": "plain name side rest"},
    "pieces": {"are_pieces": "value", "pieces_for": "plain name", "many_by": "pieces setting"},
    "counted": {"counted": "kind form rows"},
    "meaning": {"plain_of": "claim", "is_so": "claim setting"},
    "verdicts": {"judged": "claim", "follows": "one other", "alike": "one other"},
    "questions": {"all_for": "claim name setting", "least_for": "claim name setting",
                  "greatest_for": "claim name setting",
                  "many_for": "claim name setting", "told_by": "claim name", "without": "claim names",
                  "between": "one other"},
    "check_verdicts": {"shows_judged": "claim value", "shows_follows": "one other value",
                       "shows_alike": "one other value",
                       "shows_told": "claim name value"},
    "moves": {"wins": "duel", "best": "duel"},
    "books": {"given_by": "row name", "book_for": "claim hand", "written": "claim book", "by_book": "duel book"},
    "check_books": {"shows_book": "claim setting value"},
    "rules": {"rule_for": "claim name by", "added": "one other", "most_of": "rule", "growth_of": "rule",
              "first_more": "one other", "parted_at": "one other"},
    "runs": {"run": "program inputs fuel", "trial": "program place kind setting"},
    "wants": {"wants_of": "program"},
    "check_programs": {"judged_program": "program", "shows_program": "program value"},
    "pictures": {"picture": "claim name setting first last", "layout_text": "layout", "setting_text": "setting"},
}
CLASSES = {
    "papers": {"Paper": "self word *parts", "Denial": "self word *parts"},
    "layouts": {"Layout": "self rows"},
    "verdicts": {"Always": "self", "Sometimes": "self yes no", "Never": "self", "Follows": "self",
                 "Unless": "self setting", "Alike": "self", "Unlike": "self setting"},
    "questions": {"Told": "self rows", "Untold": "self setting one other"},
    "duels": {"Duel": "self claim setting"},
    "books": {"Book": "self hand rows"},
    "rules": {"Rule": "self rows"},
    "programs": {"Program": "self inputs needs rows gives"},
    "runs": {"Run": "self outcome names spent"},
    "check_programs": {"Stands": "self", "Breaks": "self place kind setting"},
    "desk": {"Desk": "self"},
}
METHODS = {
    "papers": {"Paper": {"__eq__": "self other"}},
    "layouts": {"Layout": {"has": "self number", "many": "self", "least": "self", "greatest": "self",
                           "same": "self other",
                           "__eq__": "self other"}},
    "duels": {"Duel": {"move": "self move", "twin": "self"}},
    "books": {"Book": {"__eq__": "self other"}},
    "rules": {"Rule": {"at": "self number", "__eq__": "self other"}},
    "programs": {"Program": {"__eq__": "self other"}},
    "desk": {"Desk": {"told": "self line", "back": "self", "again": "self", "twin": "self", "__len__": "self",
                      "__eq__": "self other"}},
}


def arguments(function):
    return " ".join(str(parameter) for parameter in inspect.signature(function).parameters.values())


class InterfaceTest(unittest.TestCase):
    def test_functions(self):
        for module, functions in FUNCTIONS.items():
            loaded = importlib.import_module("claimduel." + module)
            for name, told in functions.items():
                function = getattr(loaded, name)
                self.assertEqual(arguments(function), told, name)
                self.assertEqual(function.__module__, loaded.__name__)

    def test_classes(self):
        for module, classes in CLASSES.items():
            loaded = importlib.import_module("claimduel." + module)
            for name, told in classes.items():
                made = getattr(loaded, name)
                self.assertEqual(arguments(made.__init__), told, name)
                self.assertEqual(made.__module__, loaded.__name__)

    def test_methods_stand_in_the_class_itself(self):
        for module, classes in METHODS.items():
            loaded = importlib.import_module("claimduel." + module)
            for name, methods in classes.items():
                for method, told in methods.items():
                    self.assertEqual(arguments(vars(getattr(loaded, name))[method]), told, (name, method))


if __name__ == "__main__":
    unittest.main()
