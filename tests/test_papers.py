"""Papers [3]: word, parts, truth, equality, and what is fixed."""

import unittest
from collections import namedtuple

from claimduel.papers import Denial, Paper, fixed
from support import ODD_VALUES, Odd, lists, nested


class Note(Paper):
    pass


class FixedTest(unittest.TestCase):
    def test_lists_become_tuples(self):
        self.assertEqual(fixed([1, [2, (3, [])]]), (1, (2, (3, ()))))
        self.assertEqual(fixed(()), ())
        self.assertEqual(fixed([]), ())
        for depth in (1, 30, 60):
            self.assertEqual(lists(fixed(nested(depth))), lists(fixed(lists(fixed(nested(depth))))))

    def test_tuples_all_the_way_in(self):
        value = fixed(nested(60, [5]))
        for _ in range(61):
            self.assertIs(type(value), tuple)
            value = value[0]
        self.assertEqual(value, 5)

    def test_other_values_stay(self):
        for value in ODD_VALUES:
            if not isinstance(value, (list, tuple)):
                self.assertIs(fixed(value), value)
                self.assertIs(fixed([value])[0], value)
        table = {"x": [1]}
        self.assertIs(fixed([table])[0], table)
        self.assertEqual(table, {"x": [1]})
        self.assertEqual(fixed("[1]"), "[1]")

    def test_kinds_of_tuples(self):
        point = namedtuple("point", "x y")([1], 2)
        self.assertEqual(fixed(point), ((1,), 2))

    def test_what_is_passed_stays(self):
        value = [1, [2, [3]]]
        fixed(value)
        Paper("note", value)
        self.assertEqual(value, [1, [2, [3]]])


class PapersTest(unittest.TestCase):
    def test_attributes(self):
        note = Paper("note", [1, [2]], "x", None)
        self.assertEqual((note.word, note.parts), ("note", ((1, (2,)), "x", None)))
        self.assertEqual((Paper("a").parts, Denial("b").parts, Denial("b", [1]).parts), ((), (), ((1,),)))
        self.assertEqual((Paper(word="a").word, Denial(word="b").word), ("a", "b"))

    def test_any_values_are_kept(self):
        for value in ODD_VALUES:
            if not isinstance(value, (list, tuple)):
                self.assertIs(Paper("note", value).parts[0], value)
                self.assertIs(Denial("note", 1, value).parts[1], value)

    def test_it_is_copied(self):
        inner = [1]
        note = Paper("note", [inner])
        inner.append(2)
        self.assertEqual(note.parts, (((1,),),))

    def test_truth(self):
        self.assertIs(bool(Paper("no", 0)), True)
        self.assertIs(bool(Paper("")), True)
        self.assertIs(bool(Denial("yes", 1)), False)
        self.assertIs(bool(Note("note")), True)
        self.assertTrue(issubclass(Denial, Paper))

    def test_equal_exactly_if_class_word_and_parts_are(self):
        self.assertTrue(Paper("note", [1, (2,)]) == Paper("note", (1, [2])))
        self.assertFalse(Paper("note", 1) != Paper("note", 1))
        self.assertTrue(Denial("note", 1) == Denial("note", 1))
        self.assertTrue(Paper("note", True) == Paper("note", 1))
        for one, other in (
                (Paper("note"), Denial("note")), (Denial("note"), Paper("note")), (Paper("note"), Note("note")),
                (Note("note"), Paper("note")), (Paper("note"), Paper("none")), (Paper("note", 1), Paper("note")),
                (Paper("note", 1), Paper("note", 2)), (Paper("note", (1,)), Paper("note", 1)),
                (Denial("note", 1), Denial("note", 2)), (Denial("a"), Denial("b")), (Paper("note", "1"), Paper("note", 1))):
            self.assertFalse(one == other)
            self.assertTrue(one != other)

    def test_other_values_are_unlike(self):
        for value in ODD_VALUES:
            if not isinstance(value, Odd):
                self.assertIs(Paper("note") == value, False)
                self.assertIs(Denial("note") == value, False)

    def test_their_own_methods(self):
        for name in ("__init__", "__eq__"):
            self.assertIn(name, vars(Paper))
            self.assertIn(name, vars(Denial))


if __name__ == "__main__":
    unittest.main()
