"""Runs and trials [12]."""

import unittest

from claimduel.papers import Denial, Paper
from claimduel.programs import Program
from claimduel.runs import Run, run, trial
from claimduel.wants import wants_of
from program_support import COUNT, ENDLESS, GREATER, NESTED, RIGHT, THIRDS, YES, Machine, form, random_program, trial_by_hand
from support import BAD_NUMBERS, BAD_SETTINGS, ODD_VALUES, Odd, chance, random_number, told


class RunTest(unittest.TestCase):
    def test_papers(self):
        paper = Run("done", [["a", 1]], 3)
        self.assertEqual((paper.word, paper.parts, bool(paper)), ("run", ("done", (("a", 1),), 3), True))
        self.assertEqual((paper.outcome, paper.names, paper.spent), ("done", (("a", 1),), 3))
        self.assertEqual(paper, Run(spent=3, names=(("a", 1),), outcome="done"))
        self.assertNotEqual(paper, Run("short", [["a", 1]], 3))
        self.assertNotEqual(paper, Paper("run", "done", [["a", 1]], 3))
        self.assertTrue(isinstance(paper, Paper) and not isinstance(paper, Denial))
        self.assertEqual(Run(None, {}, []).parts, (None, {}, ()))

    def test_by_hand(self):
        self.assertEqual(run(THIRDS, [7], 100), Run("done", (("a", 7), ("q", 2), ("r", 1), ("w", 4)), 8))
        self.assertEqual(run(THIRDS, (7,), 8).outcome, "done")
        self.assertEqual(run(THIRDS, (7,), 7), Run("short", (("a", 7), ("q", 2), ("r", 1), ("w", 4)), 7))
        self.assertEqual(run(THIRDS, (7,), 2), Run("short", (("a", 7), ("q", 0), ("r", 7), ("w", 7)), 2))
        self.assertEqual(run(THIRDS, (7,), 0), Run("short", (("a", 7), ("q", 0), ("r", 0), ("w", 0)), 0))
        self.assertEqual(run(GREATER, (10 ** 40, -3), 2), Run("done", (("a", 10 ** 40), ("b", -3), ("m", 10 ** 40)), 2))
        self.assertEqual(run(ENDLESS, (), 100000).parts, ("short", (("w", 49999), ("x", 50000)), 100000))
        self.assertEqual(run(Program([], YES, [], YES), [], 0), Run("done", (), 0))
        self.assertEqual(dict(run(COUNT, [40], 5000).names)["s"], 80)
        self.assertEqual(dict(run(NESTED, [3], 5000).names), {"i": 3, "j": 2, "n": 3, "v": 1, "w": 1})

    def test_against_a_machine(self):
        luck = chance(230)
        outcomes = {"done": 0, "short": 0}
        for _ in range(300):
            program = random_program(luck)
            numbers = [random_number(luck) for _ in program.inputs]
            for fuel in (0, 1, 2, 3, luck.randint(4, 40), 200):
                expected = Machine(program, numbers, fuel).told()
                found = run(program, numbers, fuel)
                self.assertEqual(found.parts, expected)
                outcomes[found.outcome] += 1
            if found.outcome == "done" and found.spent:
                self.assertEqual(run(program, tuple(numbers), found.spent), found)
                self.assertEqual(run(program, tuple(numbers), found.spent - 1).outcome, "short")
        self.assertGreater(min(outcomes.values()), 100)

    def test_wrong(self):
        for value in [*ODD_VALUES, Odd(), (("a",), YES, (), YES), Program]:
            self.assertEqual(told(run, value, None, None), ("BadProgram", "program"))
            self.assertEqual(told(trial, value, None, None, None), ("BadProgram", "program"))
        for value in [None, 7, "7", [], [1, 2], [True], [1.0], ["1"], {"a": 1}, [None], Odd(), [Odd()], {1}, {1: 1}]:
            self.assertEqual(told(run, THIRDS, value, None), ("BadNumber", "inputs"))
        for value in [*BAD_NUMBERS, -1, 100001, 10 ** 50]:
            self.assertEqual(told(run, fuel=value, program=THIRDS, inputs=[1]), ("BadNumber", "fuel"))
        numbers = [5]
        run(THIRDS, numbers, 50)
        self.assertEqual(numbers, [5])


class TrialTest(unittest.TestCase):
    def test_by_hand(self):
        setting = {"a": 7, "q": 1, "r": 4, "w": 9}
        self.assertEqual(trial(THIRDS, (), "needs", {"a": 7}), ((1,), (("a", 7), ("q", 0), ("r", 7), ("w", 0))))
        self.assertEqual(trial(THIRDS, [], "needs", setting), trial(THIRDS, (), "needs", [("a", 7)]))
        self.assertEqual(trial(THIRDS, (1,), "falls", setting), ((1,), tuple(setting.items())))
        self.assertEqual(trial(THIRDS, [1], "turn", setting), ((1,), (("a", 7), ("q", 2), ("r", 1), ("w", 4))))
        self.assertEqual(trial(THIRDS, (1,), "end", setting), (None, tuple(setting.items())))
        names = {"i": 1, "j": 1, "n": 5, "v": 3, "w": 8}
        self.assertEqual(trial(NESTED, (0,), "turn", names),
                         ((0, 0, 1), (("i", 1), ("j", 0), ("n", 5), ("v", 3), ("w", 4))))
        self.assertEqual(trial(NESTED, (0, 0, 1), "turn", names),
                         ((0, 0, 1), (("i", 1), ("j", 2), ("n", 5), ("v", 1), ("w", 8))))
        self.assertEqual(trial(NESTED, (0, 0, 1), "end", names),
                         ((0,), (("i", 2), ("j", 1), ("n", 5), ("v", 3), ("w", 8))))
        self.assertEqual(trial(NESTED, (0,), "end", names), (None, tuple(names.items())))
        self.assertEqual(trial(NESTED, (), "needs", {"n": 2}),
                         ((0,), (("i", 0), ("j", 0), ("n", 2), ("v", 0), ("w", 0))))
        self.assertEqual(trial(GREATER, (), "needs", {"a": 2, "b": 5, "m": 9}), (None, (("a", 2), ("b", 5), ("m", 5))))

    def test_behind_an_if(self):
        loop = ("while", YES, YES, form(0, x=1), "w", [])
        rows = [("if", YES, [("set", "x", form(1)), loop, ("set", "x", form(2, x=1))], [("set", "y", form(1))]),
                ("set", "y", form(5, x=1)),
                ("while", YES, YES, form(0), "v", [])]
        program = Program([], YES, rows, YES)
        names = {"v": 0, "w": 0, "x": 10, "y": 0}
        self.assertEqual(trial(program, (), "needs", {}), ((0, 0, 1), (("v", 0), ("w", 0), ("x", 1), ("y", 0))))
        self.assertEqual(trial(program, (0, 0, 1), "end", names), ((2,), (("v", 0), ("w", 0), ("x", 12), ("y", 17))))
        self.assertEqual(trial(program, (2,), "end", names), (None, tuple(names.items())))

    def test_at_random(self):
        luck = chance(231)
        many = 0
        for _ in range(200):
            program = random_program(luck)
            for place, kind, _ in wants_of(program):
                setting = {name: random_number(luck) for name in [*program.names, "zz"]}
                expected = trial_by_hand(program, place, kind, setting)
                self.assertEqual(trial(program, list(place), kind, setting), expected)
                self.assertEqual(trial(program, place, kind, tuple(setting.items())), expected)
                many += kind != "needs"
        self.assertGreater(many, 200)

    def test_wrong(self):
        for value in BAD_SETTINGS:
            self.assertEqual(told(trial, THIRDS, None, None, value), ("BadSetting", "setting"))
        for place, kind in (((), "falls"), ((1,), "needs"), ((0,), "turn"), ((1, 0), "turn"), ((1, 0, 0), "end"),
                            ((2,), "end"), ((-1,), "turn"),
                            ((True,), "turn"), ((1.0,), "turn"), (1, "turn"), (None, "needs"), ((), None),
                            ((1,), "Turn"), ((1,), ""),
                            ("1", "turn"), ((1,), Odd()), (Odd(), "turn"), ((Odd(),), "turn"), ({}, "needs"),
                            ((1,), ["turn"])):
            self.assertEqual(told(trial, THIRDS, place, kind, {}), ("Misfit", "want"), (place, kind))
        self.assertEqual(told(trial, THIRDS, (), "needs", {"q": 1, "r": 1, "w": 1}), ("NoName", "a"))
        self.assertEqual(told(trial, THIRDS, (1,), "falls", {"a": 1, "w": 1}), ("NoName", "q"))
        self.assertEqual(told(trial, setting={"a": 1, "q": 1}, kind="end", place=[1], program=THIRDS), ("NoName", "r"))
        self.assertEqual(told(trial, GREATER, (), "needs", {"m": 1}), ("NoName", "a"))

    def test_a_run_is_made_of_trials(self):
        """From loop to loop: the trials of a run, put together, come to where it ends."""
        for program, numbers in ((THIRDS, [23]), (COUNT, [6]), (GREATER, [3, 9]), (NESTED, [3])):
            stop, names = trial(program, (), "needs", dict(zip(program.inputs, numbers)))
            while stop is not None:
                rows = program.rows
                for at in range(0, len(stop) - 1, 2):
                    rows = rows[stop[at]][5]
                row = rows[stop[-1]]
                is_so = Machine(Program(program.names, YES, [("if", row[1], [("set", "yes1", form(1))], [])], YES),
                                [number for _, number in names], 9).told()[1]
                kind = "turn" if dict(is_so).get("yes1") else "end"
                stop, names = trial(program, stop, kind, names)
            self.assertEqual(names, run(program, numbers, 5000).names)

    def test_right_programs_run_well(self):
        luck = chance(232)
        for program in RIGHT:
            for _ in range(20):
                numbers = [luck.randint(0, 30) for _ in program.inputs]
                found = run(program, numbers, 5000)
                self.assertEqual(found.outcome, "done")


if __name__ == "__main__":
    unittest.main()
