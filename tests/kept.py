"""A grown tree kept plainly and counted one by one, and deeds drawn for it, to hold the program against."""

import re

from huesbelow.errors import NoForm, NoLeaf, NoneYet, NoPlace, NoText, NoTree
from tests import plainly

BIG = plainly.BIG

SOME_HUES = [0, 1, 2, -1, -7, BIG, -BIG]


class Kept:
    """Each number that was ever given has a row (parent, hue), or None where it was taken."""

    def __init__(self, parents, hues):
        self.rows = list(zip(parents, hues))

    def places(self):
        return [place for place, row in enumerate(self.rows) if row is not None]

    def parent(self, place):
        return self.rows[place][0]

    def hue(self, place):
        return self.rows[place][1]

    def from_root(self, place):
        steps = []
        while place is not None:
            steps.insert(0, place)
            place = self.parent(place)
        return steps

    def below(self, place):
        return [other for other in self.places() if place in self.from_root(other)]

    def all_below(self):
        """What stands below each place, each way to the root gone once only."""
        found = {place: [] for place in self.places()}
        for other in found:
            for place in self.from_root(other):
                found[place].append(other)
        return found

    def hues_among(self, places):
        return sorted({self.hue(place) for place in places})

    def most_among(self, places):
        standing = [self.hue(place) for place in places]
        often = max(standing.count(hue) for hue in standing)
        return (often, min(hue for hue in standing if standing.count(hue) == often))

    def lowest(self, wanted):
        best = None
        for place, below in self.all_below().items():
            if set(wanted) <= {self.hue(other) for other in below}:
                rank = (-len(self.from_root(place)), place)
                best = rank if best is None else min(best, rank)
        return None if best is None else best[1]

    def plain(self):
        places = self.places()
        parents = [None if self.parent(place) is None else places.index(self.parent(place)) for place in places]
        return (parents, [self.hue(place) for place in places])

    def text(self):
        parents, hues = self.plain()
        return " ".join(f"{'-' if parent is None else parent}:{hue}" for parent, hue in zip(parents, hues))

    def refusal(self, place, taken=False):
        """The class of what is due where this place is asked of, or is to be taken, or None."""
        if place not in self.places():
            return NoPlace
        if taken and (self.parent(place) is None or len(self.below(place)) > 1):
            return NoLeaf
        return None

    def leaf(self, place, hue):
        self.rows.append((place, hue))
        return len(self.rows) - 1

    def take(self, place):
        self.rows[place] = None

    def change(self, place, hue):
        self.rows[place] = (self.parent(place), hue)

    def no_places(self):
        """Numbers that are no places now: below 0, taken ones, the next ones, of thirty figures."""
        taken = [place for place, row in enumerate(self.rows) if row is None]
        many = len(self.rows)
        return [-1, -2, -many, -many - 1, -BIG, *taken, many, many + 1, many + 2, BIG]

    def any_place(self, chance, taken=False):
        """Most often a place, or one that may be taken, now and then another number."""
        if chance.randrange(6) == 0:
            return chance.choice(self.no_places())
        fit = [place for place in self.places() if self.refusal(place, taken) is None]
        return chance.choice(fit if fit and chance.randrange(4) else self.places())


PLACE = r"(?:0|[1-9][0-9]{0,2})"
HUE = r"(?:0|-?[1-9][0-9]{0,29})"
ROW = (rf"tree [ -~]*|(?:leaf|hue) {PLACE} {HUE}|(?:take|below|most|hues) {PLACE}|text"
       rf"|lowest {HUE}(?: {HUE}){{0,19}}")
ONE = rf"(?:-|0|[1-9][0-9]{{0,29}}):{HUE}"
TEXT = rf"{ONE}(?: {ONE})*"


def read(text):
    """What reading a text tells: a tuple, or the class of what refuses it."""
    if not re.fullmatch(TEXT, text):
        return NoText
    pairs = [one.split(":") for one in text.split(" ")]
    parents = [None if parent == "-" else int(parent) for parent, _ in pairs]
    if not plainly.is_tree(parents):
        return NoTree
    return (parents, [int(hue) for _, hue in pairs])


class KeptDesk:
    """A desk that tells an answer, or the class of what refuses the row."""

    def __init__(self):
        self.kept = None

    def say(self, row):
        if not re.fullmatch(ROW, row):
            return NoForm
        word, _, behind = row.partition(" ")
        if word == "tree":
            found = read(behind)
            if isinstance(found, tuple):
                self.kept = Kept(*found)
                return f"places {len(found[0])}"
            return found
        if self.kept is None:
            return NoneYet
        return self.answer(word, [int(number) for number in behind.split()])

    def answer(self, word, numbers):
        kept = self.kept
        if word == "text":
            return kept.text()
        if word == "lowest":
            place = kept.lowest(numbers)
            return "none" if place is None else str(place)
        place = numbers[0]
        refusal = kept.refusal(place, word == "take")
        if refusal is not None:
            return refusal
        if word == "leaf":
            return f"place {kept.leaf(*numbers)}"
        if word in ("take", "hue"):
            kept.take(place) if word == "take" else kept.change(*numbers)
            return f"places {len(kept.places())}"
        below = kept.below(place)
        if word == "hues":
            return " ".join(str(hue) for hue in kept.hues_among(below))
        pair = kept.most_among(below) if word == "most" else (len(kept.hues_among(below)), len(below))
        return f"{pair[0]} {pair[1]}"
