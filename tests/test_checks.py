"""What integers, names and settings are [2], for any values."""

import enum
import unittest
from collections import OrderedDict, defaultdict

from claimduel import checks
from claimduel.checks import are_integers, is_integer, is_name, is_within, setting_of
from support import ODD_VALUES, Odd, odd_but, told

WORDS = ("and", "or", "not", "all", "some", "many", "endless", "yes", "no")
SIGNS = "abcdefghijklmnopqrstuvwxyz0123456789"


class Grade(enum.IntEnum):
    GOOD = 2


class IntegersTest(unittest.TestCase):
    def test_integers(self):
        for number in (0, 1, -1, 2 ** 64, -10 ** 40, 10 ** 400, Grade.GOOD):
            self.assertIs(is_integer(number), True)

    def test_others_are_none(self):
        for value in odd_but(int):
            self.assertIs(is_integer(value), False)
        self.assertIs(is_integer(True), False)
        self.assertIs(is_integer(False), False)
        self.assertIs(is_integer(1.0), False)

    def test_within(self):
        for least, most, right in (
                (3, 3, True), (4, None, False), (None, 2, False), (None, 3, True), (3, None, True),
                (None, None, True), (0, 10 ** 50, True), (4, 2, False), (0, 2, False), (4, 9, False)):
            self.assertIs(is_within(3, least, most), right, (least, most))
        self.assertIs(is_within(value=10 ** 40, least=10 ** 40, most=10 ** 40), True)
        for value in odd_but(int):
            for least, most in ((None, None), (0, 1), (0, None), (None, 1)):
                self.assertIs(is_within(value, least, most), False)

    def test_lists_of_integers(self):
        for value in ([], (), [1], (1, -2), [10 ** 50, 0], list(range(1000))):
            self.assertIs(are_integers(value), True)
        for value in ([True], [1, False], (1, None), [[1]], {1: 2}, {1}, "12", b"12", range(2), iter([1]),
                      [1.0], 1, None, [1, Odd()], Odd(), ["1"]):
            self.assertIs(are_integers(value), False)


class NamesTest(unittest.TestCase):
    def test_names(self):
        for name in ("x", "z9", "abcdefgh", "a2345678", "somex", "xsome", "ands", "yess", "n0", "every"):
            self.assertIs(is_name(name), True, name)

    def test_each_sign(self):
        for sign in map(chr, range(0x250)):
            self.assertIs(is_name(sign), sign in SIGNS[:26])
            self.assertIs(is_name("a" + sign), sign in SIGNS)
        for sign in "\u0661\u00aa\u00df\uff11\uff41\u2170":
            self.assertIs(is_name("a" + sign), False)

    def test_no_names(self):
        for value in ("", "abcdefghi", "a23456789", "1x", "9", "X", "xY", "x y", " x", "x ", "x\n", "x_", "-x"):
            self.assertIs(is_name(value), False, value)
        for word in WORDS:
            self.assertIs(is_name(word), False, word)
        for value in odd_but(str):
            self.assertIs(is_name(value), False)
        self.assertIs(is_name(b"x"), False)
        self.assertIs(is_name(["x"]), False)


class SettingsTest(unittest.TestCase):
    def test_settings(self):
        expected = (("a", 10 ** 50), ("x", -1), ("x1", 0))
        for value in ({"x": -1, "x1": 0, "a": 10 ** 50}, [("x", -1), ("x1", 0), ("a", 10 ** 50)],
                      (["x", -1], ["a", 10 ** 50], ("x1", 0)), expected,
                      OrderedDict([("x1", 0), ("x", -1), ("a", 10 ** 50)])):
            self.assertEqual(setting_of(value), expected)
        for value in ({}, [], (), defaultdict(int)):
            self.assertEqual(setting_of(value), ())

    def test_tuples_are_returned(self):
        told_setting = setting_of([["x", 1], ["a", 2]])
        self.assertIsInstance(told_setting, tuple)
        for pair in told_setting:
            self.assertIsInstance(pair, tuple)

    def test_no_settings(self):
        for value in ({"x": True}, {"x": None}, {"some": 1}, {1: 1}, {"x": 1, "": 1}, {("x",): 1}, {None: 1},
                      [("x", 1), ("x", 1)], [("x", 1), ["x", 2]], [("x",)], [("x", 1, 2)], [("x", False)],
                      [(1, "x")], ["x1"], [{"x": 1}], [{"x", 1}], ("x", 1), {"x", 1}, "x", [None], [[]],
                      [("x", 1), None], iter([("x", 1)]), {"x": 1}.items(), {"x": Odd()}, [("x", Odd())],
                      [(Odd(), 1)], Odd(), [Odd()], 1, None, {"x": 1.0}):
            self.assertIsNone(setting_of(value))
        for value in ODD_VALUES:
            self.assertIn(told(setting_of, value), (None,))

    def test_what_is_passed_stays(self):
        pairs = [["x", 1], ["a", 2]]
        setting_of(pairs)
        self.assertEqual(pairs, [["x", 1], ["a", 2]])
        table = {"x": 1, "a": 2}
        setting_of(table)
        self.assertEqual(list(table.items()), [("x", 1), ("a", 2)])
        counted = defaultdict(int, x=1)
        setting_of(counted)
        self.assertEqual(dict(counted), {"x": 1})

    def test_all_take_any_value(self):
        for value in ODD_VALUES:
            for check in (is_integer, are_integers, is_name):
                self.assertIn(check(value), (True, False))
            self.assertIn(is_within(value, None, 5), (True, False))
        self.assertEqual(checks.WORDS, WORDS)


if __name__ == "__main__":
    unittest.main()
