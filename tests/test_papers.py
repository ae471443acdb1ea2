"""Papers for a part, and hues that two parts have alike: [2], [4], [5], [16], [17]."""

import itertools
import unittest

from huesbelow.errors import NoHues, NoPart, NoTree
from huesbelow.papers import alike_in, paper_of, paper_shows
from huesbelow.parts import unlike_of
from tests import faults, plainly

BIG = plainly.BIG
EMPTY = plainly.empty_part(0)
ALL = ("below", 3)

# The walk of this one is [3, 0, 2, 4, 1, 5].
PARENTS = [3, 3, 0, None, 0, 1]
HUES = [5, -2, 5, -2, BIG, 5]


def is_right(parents, hues, part, paper):
    """The document's words, one by one."""
    places = plainly.places_of(parents, part)
    told = [hue for hue, _ in paper]
    if told != sorted(set(told)):
        return False
    if any(place not in places or hues[place] != hue for hue, place in paper):
        return False
    return all(hues[place] in told for place in places)


def right_papers(parents, hues, part):
    """Every right paper of a part."""
    places = plainly.places_of(parents, part)
    told = sorted({hues[place] for place in places})
    choices = [[(hue, place) for place in places if hues[place] == hue] for hue in told]
    return [list(paper) for paper in itertools.product(*choices)]


def wrong_papers(paper, part_places):
    """Papers near a right one that are not right, whatever the hues."""
    found = [paper[:at] + paper[at + 1:] for at in range(len(paper))]
    found += [paper[:at] + [paper[at]] + paper[at:] for at in range(len(paper))]
    found += [paper + [(paper[-1][0] + 1 if paper else 0, place)] for place in [*part_places, -1, BIG]]
    if len(paper) > 1:
        found += [paper[::-1], paper[1:] + paper[:1]]
    return found


class PaperShows(unittest.TestCase):
    def shows(self, *paper, part=ALL):
        return paper_shows(PARENTS, HUES, part, list(paper))

    def test_right(self):
        self.assertIs(self.shows((-2, 1), (5, 0), (BIG, 4)), True)

    def test_other_places(self):
        self.assertIs(self.shows((-2, 3), (5, 0), (BIG, 4)), True)
        self.assertIs(self.shows((-2, 1), (5, 2), (BIG, 4)), True)
        self.assertIs(self.shows((-2, 3), (5, 5), (BIG, 4)), True)

    def test_a_hue_missing(self):
        self.assertIs(self.shows((5, 0), (BIG, 4)), False)
        self.assertIs(self.shows((-2, 1), (BIG, 4)), False)
        self.assertIs(self.shows((-2, 1), (5, 0)), False)
        self.assertIs(self.shows((5, 0)), False)

    def test_one_too_many(self):
        self.assertIs(self.shows((-3, 1), (-2, 1), (5, 0), (BIG, 4)), False)
        self.assertIs(self.shows((-2, 1), (0, 0), (5, 0), (BIG, 4)), False)
        self.assertIs(self.shows((-2, 1), (5, 0), (BIG, 4), (BIG + 1, 4)), False)
        self.assertIs(self.shows((-2, 1), (5, 0), part=("below", 0)), False)

    def test_not_rising(self):
        self.assertIs(self.shows((5, 0), (-2, 1), (BIG, 4)), False)
        self.assertIs(self.shows((-2, 1), (BIG, 4), (5, 0)), False)
        self.assertIs(self.shows((BIG, 4), (5, 0), (-2, 1)), False)

    def test_a_hue_twice(self):
        self.assertIs(self.shows((-2, 1), (-2, 1), (5, 0), (BIG, 4)), False)
        self.assertIs(self.shows((-2, 1), (5, 0), (5, 2), (BIG, 4)), False)
        self.assertIs(self.shows((-2, 1), (5, 0), (BIG, 4), (BIG, 4)), False)
        self.assertIs(self.shows((-2, 1), (5, 0), (BIG, 4), (-2, 3)), False)

    def test_a_place_that_is_none(self):
        for place in (-1, -2, -6, 6, 7, BIG, -BIG):
            self.assertIs(self.shows((-2, place), (5, 0), (BIG, 4)), False)
            self.assertIs(self.shows((-2, 1), (5, place), (BIG, 4)), False)
            self.assertIs(self.shows((-2, 1), (5, 0), (BIG, place)), False)

    def test_a_place_outside_the_part(self):
        part = ("below", 0)
        self.assertIs(self.shows((5, 0), (BIG, 4), part=part), True)
        self.assertIs(self.shows((5, 2), (BIG, 4), part=part), True)
        self.assertIs(self.shows((5, 5), (BIG, 4), part=part), False)
        self.assertIs(self.shows((-2, 1), (5, 0), (BIG, 4), part=part), False)
        # The last place, told as -1, stands outside the part too.
        self.assertIs(self.shows((5, -1), (BIG, 4), part=part), False)

    def test_a_place_of_another_hue(self):
        self.assertIs(self.shows((-2, 0), (5, 1), (BIG, 4)), False)
        self.assertIs(self.shows((-2, 1), (5, 4), (BIG, 4)), False)
        self.assertIs(self.shows((-2, 1), (5, 0), (BIG, 3)), False)

    def test_empty_paper(self):
        self.assertIs(self.shows(part=EMPTY), True)
        self.assertIs(self.shows(part=("both", ("below", 0), ("below", 1))), True)
        for part in (ALL, ("below", 5), ("to", 0, 0)):
            self.assertIs(self.shows(part=part), False)

    def test_part_without_places(self):
        self.assertIs(self.shows((5, 0), part=EMPTY), False)
        self.assertIs(self.shows((-2, 1), (5, 0), (BIG, 4), part=EMPTY), False)

    def test_every_paper_of_small_trees(self):
        # Of each paper let by, just so many unlike hues stand in the part.
        tuples = list(itertools.product([-1, 0, 1], [-1, 0, 1, 2]))
        papers = [list(paper) for many in range(4) for paper in itertools.product(tuples, repeat=many)]
        for parents, hues in [([1, None], [0, -1]), ([1, None], [0, 0])]:
            for part in [("below", 0), ("below", 1), EMPTY, ("to", 1, 0)]:
                for paper in papers:
                    told = paper_shows(parents, hues, part, paper)
                    self.assertIs(told, is_right(parents, hues, part, paper), (hues, part, paper))
                    if told:
                        self.assertEqual(len(paper), unlike_of(parents, hues, part))

    def test_larger_trees(self):
        for seed, parents in enumerate(plainly.large_trees()[:7]):
            hues = plainly.mixed_hues(len(parents), seed)
            for part in plainly.mixed_parts(parents, 25, seed):
                places = plainly.places_of(parents, part)
                for paper in right_papers(parents, hues, part)[:20]:
                    self.assertIs(paper_shows(parents, hues, part, paper), True, (parents, part, paper))
                    self.assertEqual(unlike_of(parents, hues, part), len(paper))
                    for wrong in wrong_papers(paper, places):
                        self.assertIs(paper_shows(parents, hues, part, wrong), False, (parents, part, wrong))

    def test_long(self):
        parents, hues = plainly.row_tree(200), list(range(200))
        paper = [(hue, hue) for hue in hues]
        self.assertIs(paper_shows(parents, hues, ("below", 0), paper), True)
        self.assertIs(paper_shows(parents, hues, ("below", 1), paper), False)
        self.assertIs(paper_shows(parents, hues, ("below", 0), paper * 2), False)


class PaperOf(unittest.TestCase):
    def test_ordinary(self):
        self.assertEqual(paper_of(PARENTS, HUES, ALL), [(-2, 1), (5, 0), (BIG, 4)])
        self.assertEqual(paper_of(PARENTS, HUES, ("below", 1)), [(-2, 1), (5, 5)])
        self.assertEqual(paper_of(PARENTS, HUES, ("way", 5, 2)), [(-2, 1), (5, 0)])
        self.assertEqual(paper_of(PARENTS, HUES, ("stretch", 2, 6)), [(-2, 1), (5, 2), (BIG, 4)])

    def test_no_places(self):
        self.assertEqual(paper_of(PARENTS, HUES, EMPTY), [])

    def test_against_every_right_paper(self):
        for seed, parents in enumerate([*plainly.small_trees(4), *plainly.large_trees()[:7]]):
            hues = plainly.mixed_hues(len(parents), seed)
            for part in plainly.mixed_parts(parents, 8, seed):
                told = paper_of(parents, hues, part)
                self.assertEqual(told, min(right_papers(parents, hues, part)), (parents, hues, part))
                self.assertIs(paper_shows(parents, hues, part, told), True)


class AlikeIn(unittest.TestCase):
    def test_alike_at_several_places(self):
        self.assertEqual(alike_in(PARENTS, HUES, ("below", 0), ("below", 1)), (0, 5))
        self.assertEqual(alike_in(PARENTS, HUES, ("below", 1), ("below", 0)), (5, 0))
        self.assertEqual(alike_in(PARENTS, HUES, ALL, ALL), (0, 0))
        self.assertEqual(alike_in(PARENTS, HUES, ("below", 1), ALL), (1, 1))
        self.assertEqual(alike_in(PARENTS, HUES, ("to", 3, 0), ("below", 1)), (3, 1))

    def test_the_least_place_of_the_first_part_leads(self):
        # The other part has a lesser place alike (0, with 9), but not with the first part's least place.
        hues = [9, 7, 9, 1, 7, 9]
        self.assertEqual(alike_in(plainly.star(6), hues, ("way", 1, 1), ("below", 0)), (1, 1))
        self.assertEqual(alike_in(plainly.star(6, 3), hues, ("either", ("below", 1), ("below", 5)), ("below", 3)), (1, 1))
        part, other = ("either", ("below", 1), ("below", 2)), ("either", ("below", 0), ("below", 4))
        self.assertEqual(alike_in(plainly.star(6, 3), hues, part, other), (1, 4))

    def test_none_alike(self):
        self.assertIsNone(alike_in(PARENTS, HUES, ("below", 0), ("to", 1, 0)))
        self.assertIsNone(alike_in(PARENTS, list(range(6)), ("below", 0), ("below", 1)))
        self.assertIsNone(alike_in(PARENTS, HUES, ("below", 4), ("below", 5)))

    def test_parts_without_places(self):
        self.assertIsNone(alike_in(PARENTS, HUES, EMPTY, ALL))
        self.assertIsNone(alike_in(PARENTS, HUES, ALL, EMPTY))
        self.assertIsNone(alike_in(PARENTS, HUES, EMPTY, EMPTY))

    def test_place_by_place(self):
        for seed, parents in enumerate(plainly.large_trees()[:8]):
            hues = plainly.mixed_hues(len(parents), seed)
            parts = plainly.mixed_parts(parents, 12, seed)
            places = {part: plainly.places_of(parents, part) for part in parts}
            for part, other in itertools.product(parts, repeat=2):
                pairs = itertools.product(places[part], places[other])
                alike = [(one, two) for one, two in pairs if hues[one] == hues[two]]
                self.assertEqual(alike_in(parents, hues, part, other), min(alike, default=None), (part, other))


class Refusals(unittest.TestCase):
    asked = [
        paper_of,
        lambda parents, hues, part: paper_shows(parents, hues, part, []),
        lambda parents, hues, part: paper_shows(parents, hues, part, [(1, 0)]),
        lambda parents, hues, part: paper_shows(parents, hues, part, [(BIG, -BIG), (1, 1)]),
        lambda parents, hues, part: alike_in(parents, hues, part, ("below", 0)),
        lambda parents, hues, part: alike_in(parents, hues, ("below", 0), part),
        lambda parents, hues, part: alike_in(parents, hues, part, EMPTY),
        lambda parents, hues, part: alike_in(parents, hues, EMPTY, part),
        lambda parents, hues, part: alike_in(parents, hues, part, part),
    ]

    def test_no_tree_goes_first(self):
        for parents in faults.NO_TREES:
            for hues in ([1] * len(parents), [1] * (len(parents) + 1), []):
                for part in [("below", 0), (), ("below", BIG)]:
                    for at, ask in enumerate(self.asked):
                        with self.subTest(parents=parents, at=at), self.assertRaises(NoTree):
                            ask(parents, hues, part)

    def test_no_hues_goes_second(self):
        for hues in ([1] * 5, [1] * 7, []):
            for part in [ALL, EMPTY, (), ("below", BIG)]:
                for at, ask in enumerate(self.asked):
                    with self.subTest(part=part, at=at), self.assertRaises(NoHues):
                        ask(PARENTS, hues, part)

    def test_no_part_goes_third(self):
        for part in faults.some_no_parts(6):
            for at, ask in enumerate(self.asked):
                with self.subTest(part=part, at=at), self.assertRaises(NoPart):
                    ask(PARENTS, HUES, part)


class KindsAndKeeping(unittest.TestCase):
    paper = [(-2, 1), (5, 0), (BIG, 4)]

    def test_kinds(self):
        told = paper_of(PARENTS, HUES, ALL)
        self.assertIs(type(told), list)
        for each in [*told, alike_in(PARENTS, HUES, ALL, ALL)]:
            self.assertIs(type(each), tuple)
            self.assertEqual([type(number) for number in each], [int, int])
        self.assertIs(type(paper_of(PARENTS, HUES, EMPTY)), list)

    def test_handed_in_stays(self):
        parents, hues = list(PARENTS), list(HUES)
        for paper in (self.paper, self.paper[::-1], [(0, -1)], []):
            handed = list(paper)
            paper_shows(parents, hues, ALL, handed)
            self.assertEqual(handed, paper)
            with self.assertRaises(NoPart):
                paper_shows(parents, hues, (), handed)
            self.assertEqual(handed, paper)
        paper_of(parents, hues, ALL)
        alike_in(parents, hues, ALL, ALL)
        self.assertEqual((parents, hues), (PARENTS, HUES))

    def test_told_lists_are_new(self):
        parents, hues = list(PARENTS), list(HUES)
        told = paper_of(parents, hues, ALL)
        told[0] = (77, 77)
        told.append(99)
        self.assertEqual(paper_of(parents, hues, ALL), self.paper)
        self.assertEqual((parents, hues), (PARENTS, HUES))

    def test_what_was_handed_in_may_change(self):
        parents, hues = list(PARENTS), list(HUES)
        told = paper_of(parents, hues, ALL)
        parents[:] = [None, 0]
        hues[:] = [1, 1]
        self.assertEqual(told, self.paper)
        self.assertEqual(paper_of(parents, hues, ("below", 0)), [(1, 0)])
        self.assertIs(paper_shows(PARENTS, HUES, ALL, told), True)
