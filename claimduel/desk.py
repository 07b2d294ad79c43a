"""A desk: claims kept by names, and a duel, told and asked in lines."""

from claimduel.claim_texts import claim_text
from claimduel.claims import free_in
from claimduel.duels import Duel
from claimduel.errors import NoName, Nothing, TooMany
from claimduel.linetexts import read_line
from claimduel.meaning import is_so, plain_of
from claimduel.moves import best, wins
from claimduel.pictures import layout_text, picture, setting_text
from claimduel.questions import all_for, greatest_for, least_for, many_for
from claimduel.rules import growth_of, rule_for
from claimduel.verdicts import alike, follows, judged

MOST_LINES = 200
DEEDS = ("claim", "drop", "duel", "move", "reply", "stop")
# What asks for the duel that is begun.
OF_DUEL = ("move", "reply", "stop", "turn", "wins", "left", "moves")
BY_ONE = ("drop", "duel", "text", "plain", "free", "judge", "so", "many", "least", "greatest", "all", "grows",
          "picture")
BY_TWO = ("follows", "alike")


def number_text(number, otherwise):
    return otherwise if number is None else f"{number}"


def names_text(names):
    return " ".join(names) if names else "-"


def move_text(move):
    """The line of a move without the word move."""
    if move[0] == "lay":
        return "lay " + " / ".join([layout_text(layout) for layout in move[1]])
    return " ".join([move[0]] + [f"{number}" for number in move[1:]])


def turn_text(duel):
    return f"over {duel.winner}" if duel.kind == "over" else f"{duel.turn} {duel.kind}"


def judged_text(claim):
    paper = judged(claim)
    if paper.word != "sometimes":
        return paper.word
    return f"sometimes : {setting_text(paper.yes)} : {setting_text(paper.no)}"


def denial_text(paper):
    """The answer of a paper that says yes, or no with a setting."""
    return "yes" if paper else f"no : {setting_text(paper.setting)}"


def asked_of_claim(claim, line):
    """The answer to an ask about one claim."""
    word, _, *rest = line
    if word == "text":
        return claim_text(claim)
    if word == "plain":
        return claim_text(plain_of(claim))
    if word == "free":
        return names_text(free_in(claim))
    if word == "judge":
        return judged_text(claim)
    if word == "so":
        return "yes" if is_so(claim, rest[0]) else "no"
    if word == "grows":
        return growth_of(rule_for(claim, rest[0], rest[1]))
    if word == "picture":
        name, first, last, table = rest
        return picture(claim, name, table, first, last)
    return asked_of_name(claim, word, rest[0], rest[1])


def asked_of_name(claim, word, name, table):
    """The answer to an ask about the right numbers of a name."""
    if word == "many":
        return number_text(many_for(claim, name, table), "endless")
    if word == "least":
        return number_text(least_for(claim, name, table), "-")
    if word == "greatest":
        return number_text(greatest_for(claim, name, table), "-")
    return layout_text(all_for(claim, name, table))


def asked_of_duel(duel, word):
    """The answer to an ask about the duel that is begun."""
    if word == "turn":
        return turn_text(duel)
    if word == "wins":
        return f"{wins(duel)}"
    if word == "left":
        return f"{claim_text(duel.claim)} : {setting_text(duel.setting)}"
    return " / ".join([move_text(move) for move in duel.moves]) if duel.moves else "-"


class Desk:
    """The claims and the duel are never changed, but exchanged: so what was once is there to be taken back."""

    def __init__(self):
        self.log = ()
        self.claims = {}
        self.duel = None
        # The pairs (claims, duel) ahead of each deed of the log.
        self.past = []
        # The triples (line, claims, duel) of what was taken back, the last one last.
        self.undone = []

    def __eq__(self, other):
        return isinstance(other, Desk) and self.log == other.log

    def __len__(self):
        return len(self.log)

    def told(self, line):
        told = read_line(line)
        word = told[0]
        if word in DEEDS and len(self.log) >= MOST_LINES:
            raise TooMany("lines", MOST_LINES)
        self.need_kept(told)
        if word in DEEDS:
            claims, duel, answer = self.after(told)
            self.done(line, claims, duel)
            self.undone = []
            return answer
        if word == "names":
            return names_text(sorted(self.claims))
        if word in BY_TWO:
            one, other = self.claims[told[1]], self.claims[told[2]]
            return denial_text(follows(one, other) if word == "follows" else alike(one, other))
        if word in OF_DUEL:
            return asked_of_duel(self.duel, word)
        return asked_of_claim(self.claims[told[1]], told)

    def need_kept(self, told):
        """NoName for a claim that is not kept, Nothing for a duel that is not begun."""
        word = told[0]
        names = told[1:3] if word in BY_TWO else told[1:2] if word in BY_ONE else ()
        for name in names:
            if name not in self.claims:
                raise NoName(name)
        if word in OF_DUEL and self.duel is None:
            raise Nothing()

    def after(self, told):
        """The claims and the duel after a deed, and the answer."""
        word = told[0]
        if word == "claim":
            return {**self.claims, told[1]: told[2]}, self.duel, "-"
        if word == "drop":
            return {name: self.claims[name] for name in self.claims if name != told[1]}, self.duel, "-"
        if word == "stop":
            return self.claims, None, "-"
        if word == "duel":
            duel = Duel(self.claims[told[1]], told[2])
            return self.claims, duel, turn_text(duel)
        duel = self.duel.twin()
        move = best(duel) if word == "reply" else told[1]
        duel.move(move)
        return self.claims, duel, move_text(move) if word == "reply" else turn_text(duel)

    def done(self, line, claims, duel):
        """Keeps a deed that was done."""
        self.past = self.past + [(self.claims, self.duel)]
        self.log = self.log + (line,)
        self.claims = claims
        self.duel = duel

    def back(self):
        if not self.log:
            raise Nothing()
        line = self.log[-1]
        self.undone = self.undone + [(line, self.claims, self.duel)]
        self.claims, self.duel = self.past[-1]
        self.past = self.past[:-1]
        self.log = self.log[:-1]
        return line

    def again(self):
        if not self.undone:
            raise Nothing()
        line, claims, duel = self.undone[-1]
        self.undone = self.undone[:-1]
        self.done(line, claims, duel)
        return line

    def twin(self):
        other = Desk()
        other.log, other.past = self.log, self.past
        other.claims, other.duel = self.claims, self.duel
        return other
