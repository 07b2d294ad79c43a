"""A desk [13]: its lines, answers, log; what is taken back and done again."""

import unittest

from claimduel.claim_texts import claim_text, read_claim
from claimduel.claims import free_in
from claimduel.desk import Desk
from claimduel.duels import Duel
from claimduel.layouts import Layout
from claimduel.meaning import is_so
from claimduel.moves import best, wins
from claimduel.pictures import layout_text, picture
from claimduel.questions import all_for, greatest_for, least_for, many_for
from claimduel.rules import growth_of, rule_for
from claimduel.verdicts import alike, follows, judged
from support import ODD_VALUES, Odd, below, chance, random_bound, random_literal, random_tree, told, zero

COINS = "some a : some b : ( not 1 a + 0 < 0 and not 1 b + 0 < 0 and 3 a + 5 b + -1 n + 0 = 0 )"
HALF = "some x : ( -1 n + 2 x + 0 = 0 or -1 n + 2 x + -1 = 0 )"
WEEK = "( 7 | 1 x + 0 and not -1 d + 1 x + 0 < 0 and -1 d + 1 x + -7 < 0 )"
NAMED = ("drop", "duel", "text", "plain", "free", "judge", "so", "many", "least", "greatest", "all", "grows", "picture")
LINES = (
    "claim n1 3 x + 2 [ many y : ( 5 | 1 y + 0 and not 1 x + -1 y + -4 < 0 ) ] + -4 = 0",
    "claim a some x : endless y : yes", "drop half", "duel half n 7",
    "duel half z 9 n -7", "move part 0", "move name -12", "move doubt 1 -5", "move take", "move lay -",
    "move lay 0 10 5 , 12 12 1", "move lay . -3 2 / 4 . 7 , 5 5 1 / -",
    "reply", "stop", "names", "text half", "plain half", "free half", "judge half", "so half n 3 x 4", "so half",
    "follows half pay", "alike half pay", "many half n",
    "many week x d 10", "least week x d 10", "greatest week x d -4 x 3", "all week x d 10", "grows week x d",
    "picture week x -3 12 d 5", "picture half n 0 0", "turn",
    "wins", "left", "moves")


def filled():
    desk = Desk()
    for line in ("claim pay " + COINS, "claim half " + HALF, "claim week " + WEEK,
                 "claim gap ( not 1 n + 0 < 0 and not " + COINS + " )"):
        desk.told(line)
    return desk


def setting_in(words):
    return {name: int(number) for name, number in zip(words[::2], words[1::2])}


def table_text(pairs):
    return " ".join(f"{name} {number}" for name, number in pairs) or "-"


class LinesTest(unittest.TestCase):
    """Which item of a line cannot stand."""

    def refused(self, line, item):
        desk = filled()
        self.assertEqual(told(desk.told, line), ("BadText", 0, item), line)
        self.assertEqual(len(desk), 4)

    def stands(self, line):
        """Whether the line is one, whatever else is wrong with it."""
        error = told(filled().told, line)
        self.assertNotEqual(error and error[0], "BadText", (line, error))

    def test_right_ones(self):
        for line in LINES:
            self.stands(line)

    def test_one_too_many_or_missing(self):
        for line in LINES:
            items = line.split(" ")
            # Behind these a name may follow, which begins another pair, but no word.
            for more in ("and", ")", "", "-", "x y", "5"):
                if not (more == "x y" and items[0] in ("so", "duel", "many", "least", "greatest", "all", "picture")):
                    self.refused(line + " " + more, len(items))
            self.refused(line + "  x", len(items))
            self.refused(" " + line, 0)
            self.refused("x " + line, 0)
        for line in ("claim", "claim x", "drop", "duel", "duel half n", "move", "move part", "move name", "move doubt",
                     "move doubt 1", "move lay", "move lay 1",
                     "move lay 1 2", "move lay .", "move lay . 2", "move lay 1 .", "move lay 1 1 1 ,",
                     "move lay 1 1 1 /", "move lay - /", "text", "plain", "free",
                     "judge", "so", "so half n", "so half n 1 x", "follows", "follows half", "alike", "alike half",
                     "many", "many half", "many half n x", "least half",
                     "greatest half", "all half", "grows", "grows half", "grows half n", "picture", "picture half",
                     "picture half n", "picture half n 1",
                     "picture half n 1 2 x", "claim x 2 x + 1 <", "claim x some", "claim x not"):
            self.refused(line, len(line.split(" ")))

    def test_words(self):
        for line in ("", "Claim x yes", "claims", "claim,", "back", "again", "-", "5", "yes", "and", "move part 1 ",
                     " ", "part 1", "name 4", "some x : yes"):
            item = {"move part 1 ": 3}.get(line, 0)
            self.refused(line, item)
        for value in [None, 5, b"names", ["names"], ("turn",), True, Odd(), [Odd()], {},
                      *[value for value in ODD_VALUES if not isinstance(value, str)]]:
            self.refused(value, 0)

    def test_names_of_claims(self):
        for name in ("and", "Half", "1x", "", "some", "halfhalfh", "-", "x.", "no", "yes"):
            self.refused(f"claim {name} yes", 1)
            for word in NAMED:
                self.refused(f"{word} {name}", 1)
            for word in ("follows", "alike"):
                self.refused(f"{word} {name} half", 1)
                self.refused(f"{word} half {name}", 2)
            for word in ("many", "least", "greatest", "all", "grows"):
                self.refused(f"{word} half {name} n 5", 2)
            self.refused(f"grows week x {name}", 3)
            self.refused(f"picture half {name} 0 5", 2)

    def test_integers(self):
        most, far = "9" * 60, "1" + "0" * 60
        for number in (most, "-" + most, "0", "-5"):
            for line in ("move name {}", "move doubt 0 {}", "so half n {}", "duel half n {}", "picture half n {} 5",
                         "claim x 1 x + {} < 0"):
                self.stands(line.format(number))
        for number in (far, "-" + far, "+5", "05", "-0", "-", "5.0", "1e3", "", "x", "--5", "00", "\u0665", "5\n"):
            for line, item in (("move name {}", 2), ("move doubt 0 {}", 3), ("move part {}", 2), ("move doubt {} 5", 2),
                               ("so half n {}", 3), ("so half n 1 x {} y 5", 5),
                               ("picture half n {} 5", 3), ("picture half n 5 {}", 4), ("picture half n 5 6 z {}", 6),
                               ("move lay {} 5 1", 2), ("move lay 0 {} 1", 3),
                               ("move lay 0 5 {}", 4), ("claim x 1 x + {} < 0", 5)):
                if number == "-" and line == "move lay {} 5 1":
                    self.refused(line.format(number), 3)
                else:
                    self.refused(line.format(number), item)
        self.refused("move part -1", 2)
        self.refused("move doubt -1 4", 2)

    def test_settings(self):
        self.stands("so half z 1 n 2 b 3")
        self.stands("so half b 3 n 2 z 1")
        self.refused("so half n 1 n 1", 4)
        self.refused("so half n 1 z 2 b 3 z 2", 8)
        self.refused("duel half n 1 n 2", 4)
        self.refused("many week x d 1 d 1", 5)
        self.refused("picture week x 0 5 d 1 d 1", 7)
        self.refused("so half n 1 -", 4)
        self.refused("so half -", 2)
        self.refused("so half n 1 , d 2", 4)
        self.refused("so half some 1", 2)

    def test_texts(self):
        for text in ("( yes and no or yes )", "all x : some x : yes", "2 x + 1 <", "1 | 2 x + 0", "2 y + 1 x + 0 = 0",
                     "0 x + 1 < 0", "( yes )", "yes yes", "",
                     "some x yes", "1 x + 1 < 1", "not", "maybe", "2 [ many x : yes ] + 0 = 0 )", "not " * 80 + "yes"):
            _, _, item = told(read_claim, text)
            self.refused("claim q " + text, item + 2)
        self.stands("claim q " + "not " * 79 + "yes")

    def test_layouts(self):
        for text in ("-", "0 0 1", "0 0 7", "-5 10 3", ". 5 1", "5 . 9", ". 4 2 , 6 . 2", "1 9 2 , 2 8 2 , 11 11 1",
                     "12 12 1 , 0 10 5", "- / - / 3 3 1"):
            self.stands("move lay " + text)
        for text, item in ((". . 1", 1), ("5 4 1", 1), ("0 5 2", 2), ("0 5 0", 2), ("0 0 0", 2), ("0 4 -2", 2),
                           (". 5 0", 2), ("5 . 0", 2), ("0 4 2 , 4 8 2", 6),
                           ("0 4 2 , 1 1 1 , 4 4 1", 10), (". 5 1 , 3 3 1", 6), ("0 . 2 , 1 . 3", 6), ("- -", 1),
                           ("- , 1 1 1", 1), ("0 0 1 ; 1 1 1", 3),
                           ("0 0 1 1 1 1", 3), (", 0 0 1", 0), ("/ 0 0 1", 0), ("0 0 1 / / -", 4),
                           ("0 4 2 , 4 8 2 / -", 6), ("3 - 1", 1), ("0 0 1 , -", 4),
                           ("0 0 1 , 0 0 1", 6), ("x 0 1", 0), ("0 x 1", 1), ("0 0 x", 2), ("0 .. 1", 1)):
            self.refused("move lay " + text, item + 2)
        rows = " , ".join(f"{k} {k} 1" for k in range(1000))
        self.stands("move lay " + rows)
        self.refused("move lay " + rows + " , 5000 5000 1", 2 + 4 * 1001 - 2)

    def test_each_item_bent(self):
        for line in LINES:
            items = line.split(" ")
            if items[0] in ("claim", "duel", "so", "move"):
                continue
            for at, item in enumerate(items):
                for other in ("?", "", "\u00e9", "X"):
                    self.refused(" ".join(items[:at] + [other] + items[at + 1:]), at)
                doubled = items[:at + 1] + items[at:]
                if at == 0:
                    # The word itself may be the name of a claim, but for the words that are none.
                    expected = 1 if len(items) == 1 or item in ("all", "some", "many") else None
                    if expected is not None:
                        self.refused(" ".join(doubled), expected)


class AnswersTest(unittest.TestCase):
    def test_examples_by_hand(self):
        desk = filled()
        for line, answer in (
                ("names", "gap half pay week"), ("text half", HALF), ("free week", "d x"), ("free pay", "n"),
                ("so pay n 7", "no"), ("so pay x 1 n 8", "yes"),
                ("judge half", "always"), ("follows gap half", "yes"), ("alike pay pay", "yes"), ("many gap n", "4"),
                ("many pay n", "endless"), ("least gap n", "1"),
                ("greatest gap n", "7"), ("least pay n", "0"), ("greatest pay n", "-"), ("least half n", "-"),
                ("all week x d 10", "14 14 7"), ("grows week x d", "none"),
                ("picture gap n 0 9", ".##.#..#.."), ("picture week x 13 15 d 10", ".#."),
                ("many half q n 3", "endless"), ("many pay q n 7", "0")):
            found = desk.told(line)
            if line.startswith("all"):
                self.assertIn(found, ("14 14 7", "14 14 1"))
            else:
                self.assertEqual(found, answer, line)
        self.assertEqual(desk.told("claim no1 no"), "-")
        for line, answer in (("free no1", "-"), ("judge no1", "never"), ("many no1 x", "0"), ("all no1 x", "-"),
                             ("least no1 x", "-"), ("plain no1", "no")):
            self.assertEqual(desk.told(line), answer)
        self.assertEqual(Desk().told("names"), "-")
        self.assertEqual(desk.told("claim all1 yes"), "-")
        self.assertEqual((desk.told("follows all1 no1"), desk.told("alike no1 all1"), desk.told("follows no1 all1")),
                         ("no : -", "no : -", "yes"))
        self.assertEqual(len(desk), 6)

    def test_asks_as_the_functions_tell(self):
        luck = chance(260)
        for _ in range(30):
            desk = Desk()
            claims = {}
            for name in ("one", "other"):
                claim = random_bound(luck, random_tree(luck, [random_literal(luck, "nxy", must="x") for _ in range(2)]),
                                     "y")
                claims[name] = claim
                desk.told(f"claim {name} {claim_text(claim)}")
            one, other = claims["one"], claims["other"]
            setting = {name: luck.randint(-9, 9) for name in ("n", "x")}
            text = table_text(setting.items())
            self.assertEqual(desk.told("text one"), claim_text(one))
            self.assertEqual(desk.told("free one"), " ".join(free_in(one)) or "-")
            plain = read_claim(desk.told("plain one"))
            self.assertEqual(alike(plain, one).word, "alike")
            self.assertEqual(desk.told("so one " + text), "yes" if is_so(one, setting) else "no")
            verdict = judged(one)
            expected = verdict.word
            if expected == "sometimes":
                expected += f" : {table_text(verdict.yes)} : {table_text(verdict.no)}"
            self.assertEqual(desk.told("judge one"), expected)
            for word, paper in (("follows", follows(one, other)), ("alike", alike(one, other))):
                self.assertEqual(desk.told(f"{word} one other"),
                                 "yes" if paper else "no : " + table_text(paper.setting))
            many, least, greatest = (function(one, "x", setting) for function in (many_for, least_for, greatest_for))
            self.assertEqual(desk.told("many one x " + text), "endless" if many is None else str(many))
            self.assertEqual(desk.told("least one x " + text), "-" if least is None else str(least))
            self.assertEqual(desk.told("greatest one x " + text), "-" if greatest is None else str(greatest))
            self.assertEqual(desk.told("all one x " + text), layout_text(all_for(one, "x", setting)))
            self.assertEqual(desk.told("grows one x n"), growth_of(rule_for(one, "x", "n")))
            self.assertEqual(desk.told("picture one x -20 30 " + text), picture(one, "x", setting, -20, 30))
            self.assertEqual(desk.log, tuple(f"claim {name} {claim_text(claim)}" for name, claim in claims.items()))

    def test_errors_of_the_functions_behind(self):
        desk = filled()
        desk.told("claim three ( 1 x + 0 < 0 or 1 y + 1 z + 0 = 0 )")
        for line, error in (
                ("so half x 1", ("NoName", "n")), ("duel half", ("NoName", "n")), ("many week x", ("NoName", "d")),
                ("least week d", ("NoName", "x")),
                ("all three y x 1", ("NoName", "z")), ("picture week d 0 5", ("NoName", "x")),
                ("picture week d 5 4", ("BadNumber", "last")),
                ("picture week d 0 200", ("BadNumber", "last")), ("grows week x x", ("Misfit", "by")),
                ("grows three x y", ("Misfit", "claim")),
                ("grows week d q", ("Misfit", "claim")), ("move part 0", ("Nothing",)), ("reply", ("Nothing",)),
                ("stop", ("Nothing",)), ("turn", ("Nothing",)),
                ("wins", ("Nothing",)), ("left", ("Nothing",)), ("moves", ("Nothing",)),
                ("drop none", ("NoName", "none")), ("duel none n 1", ("NoName", "none")),
                ("text none", ("NoName", "none")), ("follows none half", ("NoName", "none")),
                ("follows half none", ("NoName", "none")),
                ("alike b a", ("NoName", "b")), ("so none", ("NoName", "none")), ("grows none x x", ("NoName", "none")),
                ("picture none x 5 4", ("NoName", "none"))):
            self.assertEqual(told(desk.told, line), error, line)
        self.assertEqual(len(desk), 5)
        desk.told("duel half n 7")
        for line, error in (("move part 0", ("Misfit", "kind")), ("move take", ("Misfit", "kind")),
                            ("move lay -", ("Misfit", "kind"))):
            self.assertEqual(told(desk.told, line), error)
        desk.told("move name 4")
        self.assertEqual(told(desk.told, "move part 2"), ("Misfit", "index"))
        desk.told("move part 1")
        for line in ("move part 1", "reply", "move take"):
            self.assertEqual(told(desk.told, line), ("Over",))
        desk.told("claim count 1 [ many x : " + WEEK + " ] + -1 = 0")
        desk.told("duel count d 10")
        for line, error in (("move lay - / -", ("Misfit", "layouts")), ("move lay 0 . 1", ("Misfit", "layouts")),
                            ("move lay . 0 1", ("Misfit", "layouts"))):
            self.assertEqual(told(desk.told, line), error)
        desk.told("move lay 14 14 1")
        self.assertEqual(told(desk.told, "move doubt 1 3"), ("Misfit", "index"))
        self.assertEqual(desk.log[-3:], ("claim count 1 [ many x : " + WEEK + " ] + -1 = 0", "duel count d 10",
                                         "move lay 14 14 1"))

    def test_a_duel(self):
        desk = filled()
        for line, answer in (
                ("duel half z 3 n 7", "0 name"), ("left", HALF + " : n 7"), ("wins", "0"), ("moves", "-"),
                ("reply", "name 4"), ("turn", "0 part"), ("drop half", "-"),
                ("wins", "0"), ("claim half no", "-"), ("moves", "name 4"), ("move part 1", "over 0"),
                ("turn", "over 0"), ("wins", "0"), ("moves", "name 4 / part 1"),
                ("left", "-1 n + 2 x + -1 = 0 : n 7 x 4"), ("stop", "-")):
            self.assertEqual(desk.told(line), answer, line)
        self.assertEqual(told(desk.told, "stop"), ("Nothing",))
        desk.told("claim count 1 d + 1 [ many x : " + WEEK + " ] + 2 [ many y : no ] + -11 = 0")
        for line, answer in (
                ("duel count d 10", "0 lay"), ("wins", "0"), ("move lay 10 16 3 , 11 11 1 / -", "1 doubt"),
                ("wins", "1"), ("move doubt 0 14", "0 part"),
                ("moves", "lay 10 16 3 , 11 11 1 / - / doubt 0 14"), ("wins", "1"), ("reply", None), ("wins", "1")):
            found = desk.told(line)
            if answer is not None:
                self.assertEqual(found, answer, line)

    def test_drawn_duels(self):
        luck = chance(261)
        for k in range(25):
            literals = [random_literal(luck, "nxy") for _ in range(3)]
            claim = random_bound(luck, random_tree(luck, literals), "x" if k % 2 else "yx")
            desk, setting = Desk(), {"n": luck.randint(-9, 9), "y": luck.randint(-9, 9)}
            desk.told("claim c " + claim_text(claim))
            answer = desk.told("duel c " + table_text(setting.items()))
            duel = Duel(read_claim(claim_text(claim)), setting)
            while True:
                self.assertEqual(answer, f"over {duel.winner}" if duel.kind == "over" else f"{duel.turn} {duel.kind}")
                self.assertEqual(desk.told("turn"), answer)
                self.assertEqual(desk.told("wins"), str(wins(duel)))
                self.assertEqual(desk.told("left"), f"{claim_text(duel.claim)} : {table_text(duel.setting)}")
                if duel.kind == "over":
                    break
                move = best(duel)
                if luck.random() < 0.5:
                    self.assertEqual(desk.told("reply"), self.text_of(move))
                    answer = desk.told("turn")
                else:
                    if duel.kind == "name" and luck.random() < 0.7:
                        move = ("name", luck.randint(-10 ** 40, 10 ** 40))
                    elif duel.kind == "part":
                        move = ("part", luck.randrange(len(duel.claim) - 1))
                    elif duel.kind == "doubt":
                        move = luck.choice((move, ("take",), ("doubt", 0, luck.randint(-9, 9))))
                    elif duel.kind == "lay":
                        move = luck.choice((move, ("lay", [Layout([(0, 4, 2), (7, 7, 1)])] * len(duel.claim[3]))))
                    answer = desk.told("move " + self.text_of(move))
                duel.move(move)
            self.assertEqual(desk.told("moves"), " / ".join(self.text_of(move) for move in duel.moves) or "-")

    def text_of(self, move):
        if move[0] == "lay":
            return "lay " + " / ".join(layout_text(one) for one in move[1])
        return " ".join(str(part) for part in move)


class DeskTest(unittest.TestCase):
    def test_the_log(self):
        desk = Desk()
        self.assertEqual((desk.log, len(desk)), ((), 0))
        desk.told("claim a yes")
        desk.told("names")
        self.assertEqual(told(desk.told, "claim b"), ("BadText", 0, 2))
        self.assertEqual(told(desk.told, line="drop c"), ("NoName", "c"))
        desk.told("drop a")
        self.assertEqual((desk.log, len(desk)), (("claim a yes", "drop a"), 2))
        other = Desk()
        self.assertNotEqual(desk, other)
        other.told("claim a yes")
        other.told("drop a")
        self.assertEqual(desk, other)
        self.assertFalse(desk == desk.log)
        self.assertFalse(desk == None)  # noqa: E711

    def test_a_full_log(self):
        desk = Desk()
        for k in range(199):
            desk.told(f"claim c{k % 7} {k} < 0")
        desk.told("duel c3")
        self.assertEqual(len(desk), 200)
        for line in ("claim a yes", "drop none", "drop c1", "duel none", "duel c1", "move part 0", "reply", "stop"):
            self.assertEqual(told(desk.told, line), ("TooMany", "lines", 200), line)
        self.assertEqual(told(desk.told, "stop it"), ("BadText", 0, 1))
        self.assertEqual(told(desk.told, "text none"), ("NoName", "none"))
        self.assertEqual((desk.told("names"), desk.told("turn")), ("c0 c1 c2 c3 c4 c5 c6", "over 1"))
        self.assertEqual(desk.back(), "duel c3")
        self.assertEqual(told(desk.told, "turn"), ("Nothing",))
        self.assertEqual(desk.again(), "duel c3")
        self.assertEqual(told(desk.told, "stop"), ("TooMany", "lines", 200))
        desk.back()
        self.assertEqual((desk.told("drop c1"), len(desk)), ("-", 200))
        twin = desk.twin()
        self.assertEqual(told(twin.told, "drop c2"), ("TooMany", "lines", 200))

    def test_back_and_again(self):
        desk = filled()
        self.assertEqual(told(desk.again), ("Nothing",))
        lines = ["duel half n 7", "reply", "move part 1", "drop half", "claim half no", "stop"]
        asks = ["names", "turn", "wins", "left", "moves", "text half"]
        stands = [[self.asked(desk, ask) for ask in asks]]
        for line in lines:
            desk.told(line)
            stands.append([self.asked(desk, ask) for ask in asks])
        for _ in range(2):
            for at in reversed(range(len(lines))):
                self.assertEqual(desk.back(), lines[at])
                self.assertEqual([self.asked(desk, ask) for ask in asks], stands[at])
                self.assertEqual(desk.log[4:], tuple(lines[:at]))
            for at, line in enumerate(lines):
                self.assertEqual(desk.again(), line)
                self.assertEqual([self.asked(desk, ask) for ask in asks], stands[at + 1])
            self.assertEqual(told(desk.again), ("Nothing",))
        for _ in range(len(lines) + 4):
            desk.back()
        self.assertEqual(told(desk.back), ("Nothing",))
        self.assertEqual((desk.log, desk.told("names")), ((), "-"))
        # What raises, and what asks, lets what was taken back be done again; another deed does not.
        desk.again()
        self.assertEqual(told(desk.told, "stop"), ("Nothing",))
        desk.told("names")
        self.assertEqual(desk.again(), "claim half " + HALF)
        desk.told("drop half")
        self.assertEqual(told(desk.again), ("Nothing",))

    def asked(self, desk, ask):
        return told(desk.told, ask) or desk.told(ask)

    def test_twins(self):
        desk = filled()
        desk.told("duel half n 7")
        desk.told("reply")
        desk.told("drop pay")
        desk.back()
        twin = desk.twin()
        self.assertEqual((twin, twin.log), (desk, desk.log))
        self.assertEqual(told(twin.again), ("Nothing",))
        self.assertEqual(twin.told("move part 1"), "over 0")
        self.assertEqual((desk.told("turn"), len(desk), len(twin)), ("0 part", 6, 7))
        self.assertEqual(desk.again(), "drop pay")
        self.assertEqual((desk.told("names"), twin.told("names")), ("gap half week", "gap half pay week"))
        self.assertEqual((twin.back(), twin.back(), twin.told("turn")), ("move part 1", "reply", "0 name"))
        self.assertEqual(desk.told("moves"), "name 4")
        self.assertNotEqual(desk, twin)

    def test_told_the_log_of_another(self):
        luck = chance(262)
        for _ in range(10):
            desk = filled()
            for _ in range(40):
                line = luck.choice(("duel half n 7", "duel pay n 8", "duel gap n 4", "reply", "reply", "move name 3",
                                    "move part 0", "move part 1", "drop half", "stop",
                                    "claim half " + HALF, "claim pay yes", "back", "again"))
                if line in ("back", "again"):
                    told(desk.back if line == "back" else desk.again)
                else:
                    told(desk.told, line)
            other = Desk()
            for line in desk.log:
                other.told(line)
            self.assertEqual(desk, other)
            for ask in ("names", "turn", "wins", "left", "moves", "text half", "judge pay", "many gap n", "plain pay"):
                self.assertEqual(self.asked(desk, ask), self.asked(other, ask))

    def test_sums_of_two_coins_played_out(self):
        """Which sums two coins pay: the hand that can win does, at each sum."""
        for n in range(-2, 18):
            is_paid = any(3 * a + 5 * b == n for a in range(7) for b in range(5))
            for text, hand in ((COINS, 0 if is_paid else 1), ("not " + COINS, 1 if is_paid else 0)):
                desk = Desk()
                desk.told("claim c " + text)
                answer = desk.told(f"duel c n {n}")
                while not answer.startswith("over"):
                    self.assertEqual(desk.told("wins"), str(hand))
                    desk.told("reply" if answer[0] == str(hand)
                              or n % 2 else "move " + ("name 1" if answer[2:] == "name" else "part 0"))
                    answer = desk.told("turn")
                self.assertEqual(answer, f"over {hand}")
                self.assertEqual(desk.told(f"so c n {n}"), "yes" if hand == 0 else "no")

    def test_claims_are_kept_as_told(self):
        desk = Desk()
        text = claim_text(("and", zero(0, n=1), below(-10 ** 40, n=1, x=3)))
        desk.told("claim c " + text)
        self.assertEqual(desk.told("text c"), text)
        desk.told("claim c no")
        self.assertEqual((desk.told("text c"), desk.told("names")), ("no", "c"))


if __name__ == "__main__":
    unittest.main()
