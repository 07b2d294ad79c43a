"""Wants [12], and programs judged by them [3] [9]."""

import time
import unittest

from claimduel.check_programs import Breaks, Stands, judged_program, shows_program
from claimduel.claims import free_in, is_plain
from claimduel.papers import Denial, Paper
from claimduel.plain import holds
from claimduel.programs import Program
from claimduel.runs import run, trial
from claimduel.wants import wants_of
from program_support import COUNT, ENDLESS, GREATER, LEFT, NESTED, RIGHT, THIRDS, TURN, YES, comes_out_well, form, loop_of, not_below
from program_support import random_program, wants_as_told, with_loop
from reckoning import plain_so
from support import ODD_VALUES, Odd, below, chance, lists, random_number, rests, told, zero

STUCK = Program(["a"], THIRDS.needs, [THIRDS.rows[0], (*loop_of(THIRDS)[1][:5], TURN[:1])], YES)


def free_names(claim):
    """The free names of a plain claim, by hand."""
    if claim[0] in ("yes", "no"):
        return set()
    if claim[0] in ("not", "and", "or"):
        return {name for part in claim[1:] for name in free_names(part)}
    return {name for name, _ in claim[-1][1]}


def drawn(luck, names):
    base = luck.choice((0, 0, 0, 10 ** 40))
    return {name: luck.choice((base + luck.randint(-7, 7), base + luck.randint(-7, 7), random_number(luck)))
            for name in names}


class WantsTest(unittest.TestCase):
    def check(self, program, settings):
        found, expected = wants_of(program), wants_as_told(program)
        self.assertIsInstance(found, tuple)
        self.assertEqual([row[:2] for row in found], [row[:2] for row in expected])
        self.assertEqual(found, wants_of(program))
        for (place, kind, claim), (_, _, as_told) in zip(found, expected):
            self.assertTrue(is_plain(claim))
            self.assertLessEqual(set(free_in(claim)), free_names(as_told))
            for setting in settings:
                is_so = plain_so(as_told, setting)
                self.assertEqual(holds(claim, setting), is_so, (place, kind, claim, setting))
                self.assertEqual(comes_out_well(program, place, kind, setting), is_so, (place, kind, setting))

    def test_by_hand(self):
        self.assertEqual([row[:2] for row in wants_of(THIRDS)],
                         [((), "needs"), ((1,), "falls"), ((1,), "turn"), ((1,), "end")])
        kinds = [((0,), "falls"), ((0,), "turn"), ((0,), "end"), ((0, 0, 1), "falls"), ((0, 0, 1), "turn"),
                 ((0, 0, 1), "end")]
        self.assertEqual([row[:2] for row in wants_of(NESTED)], [((), "needs"), *kinds])
        self.assertEqual([row[:2] for row in wants_of(Program([], YES, [], YES))], [((), "needs")])
        settings = [{"a": 3, "q": 0, "r": 3, "w": 3}, {"a": 7, "q": 1, "r": 4, "w": 0},
                    {"a": -1, "q": 1, "r": -4, "w": 0}]
        self.check(THIRDS, settings)
        self.check(STUCK, settings)
        self.assertEqual([holds(claim, settings[0]) for _, _, claim in wants_of(STUCK)], [True, True, False, True])

    def test_places(self):
        def loop(was, rows):
            return ("while", YES, YES, form(0), was, rows)

        rows = [("if", YES, [loop("w", [loop("v", [])])], [("if", YES, [], [loop("u", [])])]),
                loop("s", [("if", YES, [], [loop("t", [])])])]
        found = wants_of(Program([], YES, rows, YES))
        self.assertEqual([place for place, kind, _ in found if kind in ("needs", "turn")],
                         [(), (0, 0, 0), (0, 0, 0, 0, 0), (0, 1, 0, 1, 0), (1,), (1, 0, 0, 1, 0)])

    def test_at_random(self):
        luck = chance(240)
        loops = 0
        for _ in range(250):
            program = random_program(luck)
            loops += len(wants_of(program)) // 3
            self.check(program, [drawn(luck, program.names) for _ in range(12)])
        self.assertGreater(loops, 150)

    def test_right_programs(self):
        luck = chance(241)
        for program in (*RIGHT, ENDLESS):
            self.check(program, [drawn(luck, program.names) for _ in range(60)])

    def test_many_rows(self):
        """Whatever program is passed: rows in a row, ifs in a row, numbers of many digits."""
        names = ("a", "b", "c", "d", "e", "f")
        doubled = Program(names, YES, [("set", "a", form(1, a=10 ** 30, b=2)) for _ in range(40)], below(-3, a=1))
        down = Program(["a"], YES, [("if", not_below(-3, a=1), [("set", "a", form(-3, a=1))], []) for _ in range(20)],
                       below(-3, a=1))
        parted = Program(names, YES, [("if", below(k, **{names[k % 6]: 1}), [("set", "x", form(k, x=1))], [])
                                      for k in range(10)], below(0, x=1))
        kept = Program(names, YES, [("if", below(k, a=1, b=-1), [("set", "x", form(k))], [("set", "x", form(2, x=1))])
                                    for k in range(13)],
                       zero(0, a=1))
        greatest = Program(names, YES, [("if", below(0, x=1, **{names[k % 6]: -1}),
                                         [("set", "x", form(0, **{names[k % 6]: 1}))], [])
                                        for k in range(20)], not_below(0, x=1, a=-1))
        luck = chance(242)
        for program in (doubled, down, parted, kept, greatest):
            start = time.perf_counter()
            found = wants_of(program)
            self.assertLess(time.perf_counter() - start, 10)
            for _ in range(10):
                setting = {name: luck.randint(-9, 9) if luck.random() < 0.8 else luck.randint(-10 ** 30, 10 ** 30)
                           for name in program.names}
                done = run(program, [setting[name] for name in program.inputs], 5000)
                self.assertEqual(holds(found[0][2], setting), plain_so(program.gives, dict(done.names)))

    def test_wrong(self):
        for value in [*ODD_VALUES, Odd(), ((), YES, (), YES)]:
            self.assertEqual(told(wants_of, value), ("BadProgram", "program"))
            self.assertEqual(told(judged_program, program=value), ("BadProgram", "program"))
            self.assertEqual(told(shows_program, value, None), ("BadProgram", "program"))


class JudgedTest(unittest.TestCase):
    def stands(self, program):
        self.assertEqual(judged_program(program), Stands())
        self.assertIs(shows_program(program, Stands()), True)

    def breaks(self, program, place, kind):
        paper = judged_program(program)
        self.assertEqual((paper.place, paper.kind), (place, kind), paper.parts)
        self.is_right(program, paper)

    def is_right(self, program, paper):
        self.assertIsInstance(paper, Breaks)
        self.assertIs(shows_program(program, paper), True)
        self.assertIs(shows_program(program, Stands()), False)
        setting = dict(paper.setting)
        self.assertEqual(paper.setting, tuple(sorted(setting.items())))
        self.assertLessEqual(set(setting), set(program.names))
        as_told = next(claim for place, kind, claim in wants_as_told(program)
                       if (place, kind) == (paper.place, paper.kind))
        self.assertLessEqual(free_names(as_told), set(setting))
        self.assertFalse(plain_so(as_told, setting))
        self.assertFalse(comes_out_well(program, paper.place, paper.kind,
                                        {**{name: 0 for name in program.names}, **setting}))

    def test_papers(self):
        stands, breaks = Stands(), Breaks([1], "turn", [["a", 1]])
        self.assertEqual((stands.word, stands.parts, bool(stands)), ("stands", (), True))
        self.assertEqual((breaks.word, breaks.parts, bool(breaks)), ("breaks", ((1,), "turn", (("a", 1),)), False))
        self.assertEqual((breaks.place, breaks.kind, breaks.setting), ((1,), "turn", (("a", 1),)))
        self.assertEqual(breaks, Breaks(setting=(("a", 1),), kind="turn", place=(1,)))
        self.assertNotEqual(breaks, Breaks((1,), "end", (("a", 1),)))
        self.assertNotEqual(stands, Paper("stands"))
        self.assertTrue(isinstance(breaks, Denial) and isinstance(stands, Paper) and not isinstance(stands, Denial))
        self.assertEqual(Breaks(None, 5, {"a": 1}).parts, (None, 5, {"a": 1}))

    def test_right_programs(self):
        for program in RIGHT:
            self.stands(program)
        self.stands(Program([], YES, [], YES))
        self.stands(Program(["a"], ("no",), [], ("no",)))

    def test_one_thing_made_wrong(self):
        self.breaks(STUCK, (1,), "turn")
        # More inputs than it can do with.
        self.breaks(Program(["a"], not_below(1, a=1), THIRDS.rows, THIRDS.gives), (), "needs")
        self.breaks(with_loop(COUNT, falls=form(0, i=1)), (0,), "falls")
        self.breaks(with_loop(COUNT, falls=form(-9, n=1, i=-1)), (0,), "falls")
        self.breaks(with_loop(COUNT, falls=form(0)), (0,), "turn")
        self.breaks(with_loop(COUNT, rows=[("set", "i", form(1, i=1)), ("set", "s", form(3, s=1))]), (0,), "turn")
        self.breaks(with_loop(COUNT, rows=[("set", "i", form(2, i=1)), ("set", "s", form(4, s=1))]), (0,), "turn")
        self.breaks(with_loop(COUNT, keeps=zero(0, s=1, i=-2)), (0,), "end")
        self.breaks(with_loop(COUNT, keeps=YES), (0,), "end")
        self.breaks(Program(["n"], COUNT.needs, COUNT.rows, zero(1, s=1, n=-2)), (0,), "end")
        self.breaks(Program(["n"], YES, COUNT.rows, COUNT.gives), (), "needs")
        self.breaks(Program(THIRDS.inputs, THIRDS.needs, THIRDS.rows[1:], THIRDS.gives), (), "needs")
        self.breaks(Program(["a"], THIRDS.needs, THIRDS.rows, below(-2, r=1)), (1,), "end")
        self.breaks(Program(GREATER.inputs, YES, GREATER.rows, below(0, a=1, m=-1)), (), "needs")
        self.breaks(Program(["n"], NESTED.needs, NESTED.rows, zero(1, i=1, n=-1)), (0,), "end")
        self.breaks(ENDLESS, (0,), "falls")
        self.breaks(with_loop(ENDLESS, falls=form(0)), (0,), "turn")

    def test_at_random(self):
        luck = chance(243)
        words = {"stands": 0, "breaks": 0}
        for _ in range(400):
            program = random_program(luck)
            paper = judged_program(program)
            self.assertEqual(paper, judged_program(program))
            words[paper.word] += 1
            self.assertIs(shows_program(program, paper), True)
            settings = [drawn(luck, program.names) for _ in range(15)]
            for place, kind, claim in wants_as_told(program):
                if (place, kind) == (paper.place, paper.kind) if paper.word == "breaks" else False:
                    self.is_right(program, paper)
                    break
                # All wants ahead of the one that breaks are always so.
                self.assertTrue(all(plain_so(claim, setting) for setting in settings), (program.rows, place, kind))
        self.assertGreater(min(words.values()), 40)

    def test_what_stands_gives_what_it_tells(self):
        luck = chance(244)
        many = 0
        for _ in range(300):
            program = random_program(luck)
            if not judged_program(program):
                continue
            for _ in range(6):
                numbers = [luck.randint(-9, 9) for _ in program.inputs]
                if plain_so(program.needs, dict(zip(program.inputs, numbers))):
                    done = run(program, numbers, 20000)
                    self.assertEqual(done.outcome, "done")
                    self.assertTrue(plain_so(program.gives, dict(done.names)))
                    many += 1
        self.assertGreater(many, 30)

    def test_papers_bent(self):
        right = {"a": 3, "q": 0, "r": 3, "w": 3}
        shown = [
            (Breaks([1], "turn", right), True), (Breaks((1,), "turn", lists(tuple(right.items()))), True),
            (Breaks((1,), "turn", {**right, "zz": 10 ** 40}), True),
            (Breaks((1,), "turn", {"a": 6, "q": 1, "r": 3, "w": 10 ** 40}), True),
            (Breaks((1,), "turn", {"a": 6, "q": 1, "r": 3}), False), (Breaks((1,), "turn", {**right, "a": 4}), False),
            (Breaks((1,), "end", right), False), (Breaks((1,), "falls", right), False),
            (Breaks((), "turn", right), False),
            (Breaks((), "needs", right), False), (Breaks((0,), "turn", right), False),
            (Breaks((True,), "turn", right), False),
            (Breaks((1.0,), "turn", right), False), (Breaks(1, "turn", right), False),
            (Breaks((1,), "Turn", right), False),
            (Breaks((1,), None, right), False), (Breaks((1,), "turn", None), False), (Breaks((1,), "turn", ()), False),
            (Breaks((1,), "turn", {**right, "a": True}), False), (Breaks((1,), "turn", {**right, "A": 1}), False),
            (Breaks((1,), "turn", [*right.items(), ("a", 3)]), False), (Breaks(Odd(), "turn", right), False),
            (Breaks((1,), Odd(), right), False), (Breaks((1,), "turn", Odd()), False),
            (Breaks((1,), "turn", [Odd()]), False),
            (Stands(), False), (Denial("breaks", (1,), "turn", tuple(right.items())), False), (None, False),
            (True, False),
        ]
        as_told = dict((row[:2], row[2]) for row in wants_as_told(STUCK))[(1,), "turn"]
        for paper, is_right in shown:
            if isinstance(paper, Breaks) and isinstance(paper.setting, dict) and "w" not in paper.setting:
                is_right = "w" not in free_names(as_told)
            self.assertIs(shows_program(STUCK, paper), is_right, getattr(paper, "parts", paper))
        for value in ODD_VALUES:
            self.assertIs(shows_program(STUCK, value), False)
        self.assertIs(shows_program(THIRDS, Paper("stands")), False)

    def test_names_that_are_asked_for(self):
        """All names that are free in a want as it is told, though what is alike to it may have less."""
        rows = [("while", YES, ("or", zero(0, x=1), ("not", zero(0, x=1))), form(0), "w", [("set", "x", form(1, x=1))])]
        program = Program([], YES, rows, ("no",))
        names = {"w": 0, "x": 0}
        self.assertIs(shows_program(program, Breaks((0,), "turn", names)), True)
        self.assertIs(shows_program(program, Breaks((0,), "turn", {"x": 0})), True)
        self.assertIs(shows_program(program, Breaks((0,), "turn", {"w": 0})), False)
        # What is put in may let a name go: x - x is 0.
        rows = [("set", "y", form(0, x=1)), ("while", zero(0, x=1), YES, form(0), "w", [])]
        program = Program(["x"], YES, rows, YES)
        self.assertEqual(judged_program(program).parts[:2], ((1,), "turn"))
        for setting, is_right in (({"x": 0}, True), ({}, False), ({"x": 1}, False), ({"y": 0}, False)):
            self.assertIs(shows_program(program, Breaks((1,), "turn", setting)), is_right)
        gone = Program(["x"], YES, [("set", "y", form(3, x=1))], ("and", zero(0, y=1, x=-1), rests(2, 0, y=2)))
        self.assertIs(shows_program(gone, Breaks((), "needs", {})), "x" not in free_names(wants_as_told(gone)[0][2]))
        self.assertIs(shows_program(gone, Breaks((), "needs", {"x": 5})), True)

    def test_a_want_that_breaks_goes_wrong(self):
        luck = chance(245)
        for _ in range(150):
            program = random_program(luck)
            paper = judged_program(program)
            if not paper:
                setting = {**{name: 0 for name in program.names}, **dict(paper.setting)}
                self.assertFalse(comes_out_well(program, paper.place, paper.kind, setting))
                self.assertIsNone(told(trial, program, paper.place, paper.kind, setting))

    def test_times(self):
        luck = chance(246)
        most = 0
        for _ in range(200):
            program = random_program(luck)
            start = time.perf_counter()
            judged_program(program)
            most = max(most, time.perf_counter() - start)
        for program in (*RIGHT, STUCK):
            start = time.perf_counter()
            shows_program(program, judged_program(program))
            most = max(most, time.perf_counter() - start)
        self.assertLess(most, 1)
        self.assertEqual(LEFT, not_below(-3, r=1))


if __name__ == "__main__":
    unittest.main()
