"""Programs [12]: what is one, its names, and what is refused."""

import unittest

from claimduel.programs import Program
from support import ODD_VALUES, Odd, below, lists, told, zero

YES = ("yes",)
LEFT = ("not", below(-3, r=1))
KEPT = ("and", zero(0, a=1, q=-3, r=-1), ("not", below(0, r=1)))
TURN = [("set", "r", (-3, (("r", 1),))), ("set", "q", (1, (("q", 1),)))]
LOOP = ("while", LEFT, KEPT, (0, (("r", 1),)), "w", TURN)
ROWS = [("set", "r", (0, (("a", 1),))), LOOP]
NEEDS = ("not", below(0, a=1))
SET = ("set", "x", (0, ()))


def nested(levels, label):
    """A row with rows within one another: so many levels."""
    row = SET
    for level in range(levels - 1):
        row = ("if", YES, [row], []) if label == "if" else ("if", YES, [], [row]) if label == "else" \
            else ("while", YES, YES, (0, ()), f"w{level}", [row])
    return row


class ProgramTest(unittest.TestCase):
    def test_what_is_kept(self):
        program = Program(lists(("b", "a")), lists(NEEDS), lists(tuple(ROWS)), lists(KEPT))
        self.assertEqual((program.inputs, program.needs, program.gives), (("b", "a"), NEEDS, KEPT))
        self.assertEqual(program.rows, (ROWS[0], (*LOOP[:5], tuple(TURN))))
        self.assertEqual(program.names, ("a", "b", "q", "r", "w"))
        self.assertEqual(program, Program(gives=KEPT, rows=tuple(ROWS), needs=NEEDS, inputs=("b", "a")))
        for other in (Program(["a", "b"], NEEDS, ROWS, KEPT), Program(["b", "a"], YES, ROWS, KEPT),
                      Program(["b", "a"], NEEDS, [*ROWS, SET], KEPT), Program(["b", "a"], NEEDS, ROWS, YES)):
            self.assertNotEqual(program, other)
        self.assertNotEqual(program, (program.inputs, program.needs, program.rows, program.gives))
        rows, inputs = lists(tuple(ROWS)), ["b", "a"]
        Program(inputs, NEEDS, rows, KEPT)
        self.assertEqual((rows, inputs), (lists(tuple(ROWS)), ["b", "a"]))

    def test_small_ones(self):
        empty = Program([], YES, [], YES)
        self.assertEqual((empty.inputs, empty.needs, empty.rows, empty.gives, empty.names), ((), YES, (), YES, ()))
        six = Program(["a", "b", "c", "d", "e", "f"], zero(0, a=1, f=1), [], zero(0, b=1))
        self.assertEqual(six.names, ("a", "b", "c", "d", "e", "f"))
        for rows in ([("if", YES, [], [])], [("while", YES, YES, (0, ()), "w", [])],
                     [("if", zero(0, x=1), [SET], [SET])]):
            self.assertIsNone(told(Program, [], YES, rows, YES))

    def refused(self, part, inputs=("a",), needs=YES, rows=(), gives=YES):
        self.assertEqual(told(Program, inputs, needs, rows, gives), ("BadProgram", part), (inputs, needs, rows, gives))

    def test_inputs(self):
        for inputs in (["a", "a"], ["a", "b", "c", "d", "e", "f", "g"], ["A"], ["some"], [1], "a", None, {"a": 1},
                       [("a",)], Odd(), [Odd()]):
            self.refused("inputs", inputs, None, None, None)
        for value in ODD_VALUES:
            if not isinstance(value, (list, tuple)) or len(value) != 0 and not isinstance(value[0], str):
                self.refused("inputs", value, None, None, None)

    def test_needs_and_gives(self):
        bad = [None, "yes", ("and", YES), ("some", "a", YES), ("count", "zero", (0, ()), ((1, "a", YES),)),
               below(0, b=1), Odd(), [Odd()],
               ("or", YES, zero(0, a=1, b=1)), ("yes", 1), zero(0, w=1)]
        for value in bad:
            self.refused("needs", needs=value, rows=None, gives=None)
            self.refused("gives", gives=value)
        # What needs is about the inputs alone, what gives about all names.
        rows = [("set", "b", (0, ())), ("while", YES, YES, (0, ()), "w", [])]
        self.refused("needs", needs=zero(0, b=1), rows=rows)
        self.refused("needs", needs=zero(0, w=1), rows=rows)
        self.assertIsNone(told(Program, ["a"], zero(0, a=1), rows, zero(0, a=1, b=1, w=1)))
        self.refused("gives", rows=rows, gives=zero(0, c=1))

    def test_rows_bent(self):
        form = (0, (("a", 1),))
        for row in (None, (), "set", ("set",), ("set", "x"), ("set", "X", form), ("set", "x", (0,)),
                    ("set", "x", form, 1), ("Set", "x", form),
                    ("set", "x", (0, (("z", 1),))), ("set", 1, form), ("if", YES, []), ("if", YES, [], [], []),
                    ("if", None, [], []),
                    ("if", ("some", "a", YES), [], []), ("if", YES, None, []), ("if", YES, [], None),
                    ("if", YES, [None], []),
                    ("if", YES, [], [()]), ("if", zero(0, z=1), [], []), ("if", YES, SET, []),
                    ("while", YES, YES, form, "w"),
                    ("while", YES, YES, form, "w", [], []), ("while", None, YES, form, "w", []),
                    ("while", YES, None, form, "w", []),
                    ("while", YES, YES, (0,), "w", []), ("while", YES, YES, form, "W", []),
                    ("while", YES, YES, form, "w", None),
                    ("while", YES, YES, form, "w", [None]), ("while", zero(0, z=1), YES, form, "w", []),
                    ("while", YES, YES, (0, (("z", 1),)), "w", []),
                    ("while", YES, ("all", "a", YES), form, "w", []), ("while", YES, YES, form, "a", []),
                    ("while", YES, YES, form, "x", [SET]),
                    ("while", YES, YES, form, "w", [("set", "w", form)]), ("for", "x", form), Odd(), (Odd(),),
                    ("set", Odd(), form),
                    ("set", "x", Odd()), ("if", Odd(), [], []), ("while", YES, YES, form, Odd(), []), {},
                    (b"set", "x", form)):
            self.refused("rows", rows=[SET, row], gives=None)
            self.refused("rows", rows=[("if", YES, [], [SET, row])], gives=None)
            self.refused("rows", rows=[("while", YES, YES, form, "v", [row])], gives=None)
        for rows in (None, "x", 5, {}, SET, Odd(), [Odd()], [[]]):
            self.refused("rows", rows=rows)
        two = ("while", YES, YES, form, "w", [])
        self.refused("rows", rows=[two, two])
        self.refused("rows", rows=[("while", YES, YES, form, "w", [two])])
        self.refused("rows", rows=[two, ("if", YES, [("set", "w", form)], [])])
        self.refused("rows", inputs=("a", "w"), rows=[two])
        self.assertIsNone(told(Program, ["a"], YES, [two, ("while", YES, YES, form, "v", [])], YES))

    def test_names(self):
        """The was of any loop may stand anywhere, names that are set later or elsewhere, too."""
        names = (0, (("a", 1), ("v", 1), ("w", 1), ("x", 1), ("y", 1)))
        rows = [("set", "x", names), ("while", ("zero", names), YES, names, "w",
                                      [("if", ("zero", names), [("set", "y", names)], [])]),
                ("while", ("zero", names), below(0, v=1, w=1), names, "v", [])]
        program = Program(["a"], YES, rows, ("zero", names))
        self.assertEqual(program.names, ("a", "v", "w", "x", "y"))
        self.refused("rows", rows=rows[:2])
        self.refused("rows", rows=[rows[0], *rows[2:]])

    def test_a_name_that_is_only_kept(self):
        """The document's example stuck keeps what a name is that no row sets: the name counts as one of the program."""
        program = Program(["a"], YES, [("while", zero(0, a=1), zero(0, a=1, q=1), (0, ()), "w", [])], zero(0, q=1))
        self.assertEqual(program.names, ("a", "q", "w"))
        self.refused("rows", rows=[("while", zero(0, q=1), YES, (0, ()), "w", [])])
        self.refused("needs", needs=zero(0, q=1), rows=program.rows)

    def test_forty_rows(self):
        self.assertEqual(len(Program([], YES, [SET] * 40, YES).rows), 40)
        self.refused("rows", rows=[SET] * 41)
        row = ("if", YES, [SET] * 19, [SET] * 19)
        self.assertIsNone(told(Program, [], YES, [row, SET], YES))
        self.refused("rows", rows=[row, SET, SET])
        self.refused("rows", rows=[("if", YES, [SET] * 19, [SET] * 21)])
        self.refused("rows", rows=[("while", YES, YES, (0, ()), "w", [SET] * 40)])
        self.assertIsNone(told(Program, [], YES, [("while", YES, YES, (0, ()), "w", [SET] * 39)], YES))

    def test_five_levels(self):
        for label in ("if", "else", "while"):
            self.assertIsNone(told(Program, [], YES, [nested(5, label)], YES))
            self.refused("rows", rows=[nested(6, label)])
            self.refused("rows", rows=[SET, nested(50, label)])

    def test_the_first_wrong_parameter(self):
        self.refused("inputs", None, None, None, None)
        self.refused("needs", ["a"], None, None, None)
        self.refused("rows", ["a"], YES, None, None)
        self.refused("gives", ["a"], YES, [], None)


if __name__ == "__main__":
    unittest.main()
