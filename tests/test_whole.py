"""What is promised over the whole program: [1] to [4]."""

import copy
import random
import unittest

from huesbelow import lasts, lowest, often, own, papers, parts, texts, trees
from huesbelow.desk import Desk
from huesbelow.errors import HueError
from huesbelow.grown import Grown
from tests import plainly
from tests.kept import SOME_HUES, Kept

BIG = plainly.BIG

PARENTS = [3, 3, 0, None, 0, 1]
HUES = [5, -2, 5, 7, BIG, 5]
PART = ("either", ("below", 0), ("way", 5, 3))
WRITTEN = f"3:5 3:-2 0:5 -:7 0:{BIG} 1:5"

# Each function of the interface, what is handed in, and the kind of what is told: "n" for a whole number.
CALLS = [
    (trees.walk, (PARENTS,), ["n"]), (trees.span, (PARENTS, 0), ("n", "n")), (trees.depth, (PARENTS, 2), "n"),
    (trees.way, (PARENTS, 2, 5), ["n"]), (trees.children, (PARENTS, 0), ["n"]),
    (lasts.last_places, (HUES,), ["n?"]), (lasts.unlike_in, (HUES, (1, 5)), "n"),
    (lasts.unlike_below, (PARENTS, HUES, 0), "n"), (lasts.unlike_all, (PARENTS, HUES), ["n"]),
    (lasts.hues_below, (PARENTS, HUES, 3), ["n"]),
    (parts.places_of, (PARENTS, PART), ["n"]), (parts.unlike_of, (PARENTS, HUES, PART), "n"),
    (parts.hues_of, (PARENTS, HUES, PART), ["n"]),
    (often.how_often, (PARENTS, HUES, PART), [("n", "n")]), (often.most_frequent, (PARENTS, HUES, PART), ("n", "n")),
    (often.most_all, (PARENTS, HUES), [("n", "n")]), (often.so_often, (PARENTS, HUES, PART, 1), "n"),
    (often.so_manieth, (PARENTS, HUES, PART, 2), "n"),
    (papers.paper_shows, (PARENTS, HUES, PART, [(-2, 1), (5, 2), (7, 3), (BIG, 4)]), True),
    (papers.paper_shows, (PARENTS, HUES, PART, [(5, 2), (-2, 1)]), False),
    (papers.paper_of, (PARENTS, HUES, PART), [("n", "n")]),
    (papers.alike_in, (PARENTS, HUES, PART, ("below", 1)), ("n", "n")),
    (lowest.lowest_holding, (PARENTS, HUES, [5, BIG, 5]), "n"), (lowest.places_with, (PARENTS, HUES, 2), ["n"]),
    (lowest.fewest_with, (PARENTS, HUES, 2), ("n", "n")),
    (texts.tree_text, (PARENTS, HUES), ""), (texts.read_tree, (WRITTEN,), (["n?"], ["n"])),
    (own.own_part, (PARENTS, HUES, 5), ["n"]), (own.own_height, (PARENTS, HUES, 5), ("n", "n")),
    (own.own_counts, (PARENTS, HUES), ["n"]), (own.most_own, (PARENTS, HUES), ("n", "n")),
    (own.closed_places, (PARENTS, HUES), ["n"]), (own.first_closed, (PARENTS, HUES, 2), "n"),
    (own.cut_off, (PARENTS, HUES, 3), (["n?"], ["n"])),
]

# What tells None where there is nothing to tell.
NOTHING = [
    (often.most_frequent, (PARENTS, HUES, plainly.empty_part(0))), (often.so_manieth, (PARENTS, HUES, PART, 5)),
    (papers.alike_in, (PARENTS, HUES, PART, plainly.empty_part(0))), (lowest.lowest_holding, (PARENTS, HUES, [0])),
    (lowest.fewest_with, (PARENTS, HUES, 5)), (own.own_height, (PARENTS, HUES, 0)),
]


def is_kind(told, kind):
    """Whether what is told is just of this kind, through and through."""
    if kind == "n?":
        return told is None or type(told) is int
    if kind == "n":
        return type(told) is int
    if kind == "":
        return type(told) is str
    if isinstance(kind, bool):
        return told is kind
    if isinstance(kind, list):
        return type(told) is list and len(told) > 0 and all(is_kind(each, kind[0]) for each in told)
    return type(told) is tuple and len(told) == len(kind) and all(map(is_kind, told, kind))


def lists_in(told):
    """All lists in what is told, itself among them."""
    found = [told] if isinstance(told, list) else []
    if isinstance(told, (list, tuple)):
        for each in told:
            found += lists_in(each)
    return found


class EachFunction(unittest.TestCase):
    def test_kinds(self):
        for ask, handed, kind in CALLS:
            told = ask(*handed)
            self.assertTrue(is_kind(told, kind), (ask.__name__, told))
        for ask, handed in NOTHING:
            self.assertIsNone(ask(*handed), ask.__name__)

    def test_empty_lists(self):
        empty = plainly.empty_part(0)
        for told in (trees.children(PARENTS, 2), lasts.last_places([]), parts.places_of(PARENTS, empty),
                     parts.hues_of(PARENTS, HUES, empty), often.how_often(PARENTS, HUES, empty),
                     papers.paper_of(PARENTS, HUES, empty), lowest.places_with(PARENTS, HUES, 0),
                     own.own_part(PARENTS, HUES, 0)):
            self.assertIs(type(told), list)
            self.assertEqual(told, [])

    def test_handed_in_stays(self):
        for ask, handed, _ in CALLS:
            before = copy.deepcopy(handed)
            ask(*handed)
            self.assertEqual(handed, before, ask.__name__)

    def test_handed_in_stays_where_it_is_refused(self):
        for ask, handed, _ in CALLS:
            for wrong in ([None, None], [9] * 6, []):
                for at, each in enumerate(handed):
                    if each in (PARENTS, HUES):
                        taken = [*copy.deepcopy(handed[:at]), list(wrong), *copy.deepcopy(handed[at + 1:])]
                        before = copy.deepcopy(taken)
                        try:
                            ask(*taken)
                        except HueError:
                            pass
                        self.assertEqual(taken, before, ask.__name__)

    def test_told_lists_are_the_askers_own(self):
        for ask, handed, _ in CALLS:
            mine = copy.deepcopy(handed)
            told = ask(*mine)
            right = copy.deepcopy(told)
            for each in lists_in(told):
                each.reverse()
                each.append(99)
            self.assertEqual(mine, handed, ask.__name__)
            self.assertEqual(ask(*mine), right, ask.__name__)

    def test_told_lists_stay(self):
        for ask, handed, _ in CALLS:
            mine = copy.deepcopy(handed)
            told = ask(*mine)
            right = copy.deepcopy(told)
            ask(*mine)
            for each in mine:
                if isinstance(each, list):
                    each.clear()
            self.assertEqual(told, right, ask.__name__)

    def test_the_same_is_told_again(self):
        told = [ask(*handed) for ask, handed, _ in CALLS]
        self.assertEqual([ask(*handed) for ask, handed, _ in reversed(CALLS)], told[::-1])


class CountedOneByOne(unittest.TestCase):
    """A grown tree, a desk and the plain functions beside a tree that is kept plainly."""

    def setUp(self):
        self.chance = random.Random(28)

    def deed(self, tree, desk, kept):
        chance = self.chance
        word = chance.choices(["leaf", "take", "change"], [6, 3, 2])[0]
        fit = [place for place in kept.places() if kept.refusal(place, word == "take") is None]
        if not fit:
            return
        place, hue = chance.choice(fit), chance.choice(SOME_HUES)
        handed = (place,) if word == "take" else (place, hue)
        getattr(tree, word)(*handed)
        getattr(kept, word)(*handed)
        desk.say(" ".join([word.replace("change", "hue"), *map(str, handed)]))

    def part(self, parents, hues, part):
        """All that is told of a part, counted among its places."""
        places = plainly.places_of(parents, part)
        standing = plainly.part_hues(parents, hues, part)
        unlike = sorted(set(standing))
        counts = [(hue, standing.count(hue)) for hue in unlike]
        ranked = sorted((-many, hue) for hue, many in counts)
        self.assertEqual(parts.places_of(parents, part), places)
        self.assertEqual(parts.unlike_of(parents, hues, part), len(unlike))
        self.assertEqual(parts.hues_of(parents, hues, part), unlike)
        self.assertEqual(often.how_often(parents, hues, part), counts)
        self.assertEqual(often.most_frequent(parents, hues, part), (-ranked[0][0], ranked[0][1]) if ranked else None)
        for number in (1, 2, 3):
            right = ranked[number - 1][1] if number <= len(ranked) else None
            self.assertEqual(often.so_manieth(parents, hues, part, number), right)
            self.assertEqual(often.so_often(parents, hues, part, number), len([one for one in counts if one[1] >= number]))
        paper = papers.paper_of(parents, hues, part)
        self.assertEqual(paper, [(hue, min(place for place in places if hues[place] == hue)) for hue in unlike])
        for told in [paper, *self.drawn_papers(parents, hues, paper)]:
            if papers.paper_shows(parents, hues, part, told):
                self.assertEqual(len(told), len(unlike))
                self.assertTrue(all(place in places and hues[place] == hue for hue, place in told))
        self.assertIs(papers.paper_shows(parents, hues, part, paper), True)

    def drawn_papers(self, parents, hues, paper):
        """Papers of any maker: this one somewhat changed, and others."""
        chance = self.chance
        for _ in range(4):
            drawn = [(hues[place], place) for place in range(len(parents)) if chance.randrange(2)]
            yield sorted(dict(drawn).items())
            yield [one for one in paper if chance.randrange(5)]
            yield [(hue, chance.randrange(-1, len(parents) + 1)) for hue, _ in paper]

    def same(self, tree, desk, kept):
        parents, hues = tree.plain()
        places = tree.places()
        self.assertEqual((parents, hues), kept.plain())
        self.assertEqual(texts.read_tree(desk.say("text")), (parents, hues))
        for number, place in enumerate(places):
            below = kept.below(place)
            unlike, most = kept.hues_among(below), kept.most_among(below)
            self.assertEqual((tree.unlike(place), tree.many(place)), (len(unlike), len(below)))
            self.assertEqual(desk.say(f"below {place}"), f"{len(unlike)} {len(below)}")
            self.assertEqual((tree.most(place), desk.say(f"most {place}")), (most, f"{most[0]} {most[1]}"))
            self.assertEqual((tree.hues(place), desk.say(f"hues {place}")), (unlike, " ".join(map(str, unlike))))
            self.assertEqual(lasts.unlike_below(parents, hues, number), len(unlike))
            self.assertEqual(own.own_part(parents, hues, hues[number]).count(number), 1)
        wanted = self.chance.sample(SOME_HUES, 2)
        low = lowest.lowest_holding(parents, hues, wanted)
        self.assertEqual(None if low is None else places[low], kept.lowest(wanted))
        self.assertEqual(desk.say(f"lowest {wanted[0]} {wanted[1]}"), "none" if low is None else str(places[low]))

    def test_in_drawn_orders(self):
        for _ in range(6):
            hue = self.chance.choice(SOME_HUES)
            tree, desk, kept = Grown(hue), Desk(), Kept([None], [hue])
            desk.say(f"tree -:{hue}")
            for step in range(50):
                self.deed(tree, desk, kept)
                self.same(tree, desk, kept)
                if step % 5 == 0:
                    for part in plainly.mixed_parts(kept.plain()[0], 8, step):
                        self.part(*kept.plain(), part)
