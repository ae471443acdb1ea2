"""Own parts, closed places and what is cut off: [2], [3], [4], [5], [25] to [28]."""

import itertools
import unittest

from huesbelow.errors import NoHues, NoPart, NoPlace, NoTree
from huesbelow.lasts import unlike_below
from huesbelow.own import closed_places, cut_off, first_closed, most_own, own_counts, own_height, own_part
from huesbelow.parts import hues_of, unlike_of
from huesbelow.texts import read_tree, tree_text
from tests import faults, plainly

BIG = plainly.BIG

# The depths of these places are [1, 1, 2, 0, 2, 2].
PARENTS = [3, 3, 0, None, 0, 1]
HUES = [5, -2, 6, 7, 5, -2]


def hangs_together(parents, places):
    """Whether each of the places but one has its parent among them."""
    return len([place for place in places if parents[place] in places]) == len(places) - 1


def least_set(parents, hues, hue):
    """The least of all sets of places that hang together and hold the hue's places."""
    having = {place for place, each in enumerate(hues) if each == hue}
    if not having:
        return []
    for many in range(1, len(parents) + 1):
        sets = [places for places in itertools.combinations(range(len(parents)), many)
                if having <= set(places) and hangs_together(parents, places)]
        if sets:
            return list(sets[0]) if len(sets) == 1 else None


def on_ways(parents, hues, hue):
    """All places on ways between two places of the hue."""
    having = [place for place, each in enumerate(hues) if each == hue]
    ways = [plainly.way(parents, one, other) for one, other in itertools.combinations_with_replacement(having, 2)]
    return sorted({place for way in ways for place in way})


def height(parents, part):
    if not part:
        return None
    top = min(part, key=lambda place: len(plainly.from_root(parents, place)))
    return (top, max(len(plainly.way(parents, top, place)) - 1 for place in part))


def is_closed(parents, hues, place):
    below = plainly.below(parents, place)
    for other in range(len(parents)):
        if other not in below and hues[other] in [hues[each] for each in below]:
            return False
    return True


def cut(parents, hues, place):
    below = plainly.below(parents, place)
    anew = [None if each == place else below.index(parents[each]) for each in below]
    return (anew, [hues[each] for each in below])


def some_hues(many, seed):
    """Hues for so many places: all alike, all unlike, in pairs, in runs, and mixed."""
    rows = [[BIG] * many, list(range(many)), [place // 2 for place in range(many)], [place % 3 for place in range(many)]]
    return [*rows, [abs(place - many // 2) for place in range(many)], plainly.mixed_hues(many, seed)]


class OwnPart(unittest.TestCase):
    def test_ordinary(self):
        self.assertEqual(own_part(PARENTS, HUES, 5), [0, 4])
        self.assertEqual(own_part(PARENTS, HUES, -2), [1, 5])
        self.assertEqual(own_part(PARENTS, [5, 0, 0, 0, 0, 5], 5), [0, 1, 3, 5])
        self.assertEqual(own_part(PARENTS, [0, 0, 5, 0, 5, 0], 5), [0, 2, 4])

    def test_none(self):
        for hue in (4, 0, BIG, -BIG):
            self.assertEqual(own_part(PARENTS, HUES, hue), [])
            self.assertIsNone(own_height(PARENTS, HUES, hue))

    def test_one(self):
        self.assertEqual(own_part(PARENTS, HUES, 6), [2])
        self.assertEqual(own_height(PARENTS, HUES, 6), (2, 0))
        self.assertEqual(own_part(PARENTS, HUES, 7), [3])
        self.assertEqual(own_height(PARENTS, HUES, 7), (3, 0))
        self.assertEqual(own_part([None], [-BIG], -BIG), [0])

    def test_all(self):
        self.assertEqual(own_part(PARENTS, [9] * 6, 9), [0, 1, 2, 3, 4, 5])
        self.assertEqual(own_height(PARENTS, [9] * 6, 9), (3, 2))

    def test_height(self):
        self.assertEqual(own_height(PARENTS, HUES, 5), (0, 1))
        self.assertEqual(own_height(PARENTS, [0, 0, 5, 0, 5, 0], 5), (0, 1))
        self.assertEqual(own_height(PARENTS, [0, 5, 5, 0, 0, 0], 5), (3, 2))
        self.assertEqual(own_height(PARENTS, [5, 5, 0, 0, 0, 0], 5), (3, 1))

    def test_the_root_is_not_held_where_it_need_not_be(self):
        parents = [1, 2, 3, None, 1, 2]
        self.assertEqual(own_part(parents, [8, 0, 0, 0, 8, 0], 8), [0, 1, 4])
        self.assertEqual(own_part(parents, [8, 0, 0, 0, 0, 8], 8), [0, 1, 2, 5])
        self.assertEqual(own_height(parents, [8, 0, 0, 0, 0, 8], 8), (2, 2))

    def test_the_least_of_all_sets(self):
        for parents in plainly.small_trees(4):
            for hues in itertools.product([0, 1], repeat=len(parents)):
                for hue in (0, 1, 2):
                    right = least_set(parents, hues, hue)
                    self.assertEqual(own_part(parents, list(hues), hue), right, (parents, hues, hue))
                    self.assertEqual(own_height(parents, list(hues), hue), height(parents, right), (parents, hues, hue))

    def test_larger_trees(self):
        for seed, parents in enumerate(plainly.large_trees()):
            for hues in some_hues(len(parents), seed):
                for hue in [*sorted(set(hues)), 10 ** 29]:
                    right = on_ways(parents, hues, hue)
                    self.assertEqual(own_part(parents, hues, hue), right, (parents, hues, hue))
                    self.assertEqual(own_height(parents, hues, hue), height(parents, right), (parents, hues, hue))

    def test_long(self):
        for many in (200, 230, 1100):
            parents, hues = plainly.row_tree(many), [1] + [0] * (many - 2) + [1]
            self.assertEqual(own_part(parents, hues, 1), list(range(many)))
            self.assertEqual(own_part(parents, hues, 0), list(range(1, many - 1)))
            self.assertEqual(own_height(parents, hues, 1), (0, many - 1))
            self.assertEqual(own_height(parents, hues, 0), (1, many - 3))


class OwnCounts(unittest.TestCase):
    def test_ordinary(self):
        self.assertEqual(own_counts(PARENTS, HUES), [1, 1, 1, 1, 1, 1])
        self.assertEqual(most_own(PARENTS, HUES), (1, 0))
        self.assertEqual(own_counts(PARENTS, [5, 6, 6, 7, 7, 5]), [3, 2, 1, 3, 1, 1])
        self.assertEqual(most_own(PARENTS, [5, 6, 6, 7, 7, 5]), (3, 0))

    def test_places_that_stand_in_none_but_their_own(self):
        self.assertEqual(own_counts([None], [5]), [1])
        self.assertEqual(most_own([None], [5]), (1, 0))
        self.assertEqual(own_counts(plainly.star(4, 2), [8, 8, 9, 8]), [1, 1, 2, 1])
        self.assertEqual(most_own(plainly.star(4, 2), [8, 8, 9, 8]), (2, 2))

    def test_the_least_of_several(self):
        parents = [3, 3, 0, None, 0, 1, 1]
        hues = [5, -2, 6, 7, 6, 9, 9]
        self.assertEqual(own_counts(parents, hues), [2, 2, 1, 1, 1, 1, 1])
        self.assertEqual(most_own(parents, hues), (2, 0))
        self.assertEqual(most_own(plainly.row_tree(6), [1, 2, 3, 3, 2, 1]), (3, 2))
        self.assertEqual(most_own(plainly.backward_row(6), [1, 2, 3, 3, 2, 1]), (3, 2))

    def check(self, parents, hues, parts):
        every = range(len(parents))
        counts = [len([hue for hue in set(hues) if place in parts(parents, hues, hue)]) for place in every]
        self.assertEqual(own_counts(parents, hues), counts, (parents, hues))
        best = max(counts)
        least = min(place for place in every if counts[place] == best)
        self.assertEqual(most_own(parents, hues), (best, least), (parents, hues))

    def test_small_trees(self):
        for parents in plainly.small_trees(4):
            for hues in itertools.product([-1, 0, 1], repeat=len(parents)):
                self.check(parents, list(hues), least_set if len(parents) < 4 else on_ways)

    def test_larger_trees(self):
        for seed, parents in enumerate(plainly.large_trees()):
            for hues in some_hues(len(parents), seed):
                self.check(parents, hues, on_ways)

    def test_long(self):
        parents, hues = plainly.row_tree(200), [min(place, 199 - place) for place in range(200)]
        self.assertEqual(own_counts(parents, hues), [min(place, 199 - place) + 1 for place in range(200)])
        self.assertEqual(most_own(parents, hues), (100, 99))


class ClosedPlaces(unittest.TestCase):
    def test_ordinary(self):
        self.assertEqual(closed_places(PARENTS, HUES), [0, 1, 2, 3])
        self.assertEqual([first_closed(PARENTS, HUES, place) for place in range(6)], [0, 1, 2, 3, 0, 1])

    def test_hues_alike_below_some_place_only(self):
        self.assertEqual(closed_places(PARENTS, [5, 1, 5, 7, 5, 2]), [0, 1, 3, 5])
        self.assertEqual(closed_places(PARENTS, [5, 1, 5, 7, 5, 5]), [3])
        self.assertEqual(closed_places(PARENTS, [5, 1, 5, 5, 5, 2]), [1, 3, 5])

    def test_all_alike_and_all_unlike(self):
        self.assertEqual(closed_places(PARENTS, [4] * 6), [3])
        self.assertEqual(closed_places(PARENTS, list(range(6))), [0, 1, 2, 3, 4, 5])
        self.assertEqual(closed_places([None], [4]), [0])

    def test_the_root_is_closed(self):
        for seed, parents in enumerate(plainly.large_trees()):
            root = parents.index(None)
            for hues in some_hues(len(parents), seed):
                self.assertIn(root, closed_places(parents, hues))
                self.assertEqual(first_closed(parents, hues, root), root)

    def test_first_closed(self):
        hues = [5, 5, 6, 5, 8, 8]
        self.assertEqual(closed_places(PARENTS, hues), [2, 3])
        self.assertEqual([first_closed(PARENTS, hues, place) for place in range(6)], [3, 3, 2, 3, 3, 3])

    def check(self, parents, hues):
        every = range(len(parents))
        closed = [place for place in every if is_closed(parents, hues, place)]
        self.assertEqual(closed_places(parents, hues), closed, (parents, hues))
        for place in every:
            above = plainly.from_root(parents, place)
            right = [each for each in above if each in closed][-1]
            self.assertEqual(first_closed(parents, hues, place), right, (parents, hues, place))

    def test_small_trees(self):
        for parents in plainly.small_trees(4):
            for hues in itertools.product([-1, 0, 1], repeat=len(parents)):
                self.check(parents, list(hues))

    def test_larger_trees(self):
        for seed, parents in enumerate(plainly.large_trees()):
            for hues in some_hues(len(parents), seed):
                self.check(parents, hues)

    def test_long(self):
        for many in (200, 230, 1100):
            parents, hues = plainly.row_tree(many), [0] * 100 + [1] * (many - 100)
            self.assertEqual(closed_places(parents, hues), [0, 100])
            self.assertEqual(first_closed(parents, hues, many - 1), 100)
            self.assertEqual(first_closed(parents, hues, 99), 0)


class CutOff(unittest.TestCase):
    def test_at_the_root(self):
        told = cut_off(PARENTS, HUES, 3)
        self.assertEqual(told, (PARENTS, HUES))
        self.assertIsNot(told[0], PARENTS)
        self.assertIsNot(told[1], HUES)
        self.assertEqual(cut_off([None], [4], 0), ([None], [4]))

    def test_at_a_leaf(self):
        self.assertEqual(cut_off(PARENTS, HUES, 2), ([None], [6]))

    def test_numbers_mixed_with_others(self):
        self.assertEqual(cut_off(PARENTS, HUES, 0), ([None, 0, 0], [5, 6, 5]))
        self.assertEqual(cut_off(PARENTS, HUES, 1), ([None, 0], [-2, -2]))
        parents, hues = [2, None, 5, 1, 2, 1, 0], [7, 1, 8, 1, 7, 9, 8]
        self.assertEqual(cut_off(parents, hues, 5), ([1, 3, 1, None, 0], [7, 8, 7, 9, 8]))
        self.assertEqual(cut_off(parents, hues, 2), ([1, None, 1, 0], [7, 8, 7, 8]))

    def check(self, parents, hues):
        for place in range(len(parents)):
            if not is_closed(parents, hues, place):
                with self.assertRaises(NoPart):
                    cut_off(parents, hues, place)
                continue
            told = cut_off(parents, hues, place)
            self.assertEqual(told, cut(parents, hues, place), (parents, hues, place))
            self.together(parents, hues, place, told)

    def together(self, parents, hues, place, told):
        """What is cut off is a tree, and its hues and those left are together those of the whole."""
        root = parents.index(None)
        self.assertEqual(read_tree(tree_text(*told)), told)
        within = unlike_below(*told, told[0].index(None))
        left = ("but", ("below", root), ("below", place))
        self.assertEqual(within + unlike_of(parents, hues, left), unlike_below(parents, hues, root))
        self.assertEqual(sorted([*set(told[1]), *hues_of(parents, hues, left)]), sorted(set(hues)))

    def test_small_trees(self):
        for parents in plainly.small_trees(4):
            for hues in itertools.product([-1, 0, 1], repeat=len(parents)):
                self.check(parents, list(hues))

    def test_larger_trees(self):
        for seed, parents in enumerate(plainly.large_trees()):
            for hues in some_hues(len(parents), seed):
                self.check(parents, hues)

    def test_long(self):
        for many in (200, 230, 1100):
            parents, hues = plainly.backward_row(many), [0] * 100 + [1] * (many - 100)
            self.assertEqual(cut_off(parents, hues, 99), (plainly.backward_row(100), [0] * 100))
            self.assertEqual(cut_off(parents, hues, many - 1), (parents, hues))
            with self.assertRaises(NoPart):
                cut_off(parents, hues, 98)


class Refusals(unittest.TestCase):
    by_place = [first_closed, cut_off]
    by_hue = [own_part, own_height]
    asked = [*by_hue, *by_place, lambda parents, hues, number: own_counts(parents, hues),
             lambda parents, hues, number: most_own(parents, hues), lambda parents, hues, number: closed_places(parents, hues)]

    def test_no_tree_goes_first(self):
        for parents in faults.NO_TREES:
            for hues in ([1] * len(parents), [1] * (len(parents) + 1), []):
                for number in (0, 1, -1, BIG, -BIG):
                    for at, ask in enumerate(self.asked):
                        with self.subTest(parents=parents, at=at), self.assertRaises(NoTree):
                            ask(parents, hues, number)

    def test_no_hues_goes_second(self):
        for hues in ([1] * 5, [1] * 7, []):
            for number in (0, 1, 3, 6, -1, BIG, -BIG):
                for at, ask in enumerate(self.asked):
                    with self.subTest(hues=hues, at=at), self.assertRaises(NoHues):
                        ask(PARENTS, hues, number)

    def test_no_place(self):
        for hues in (HUES, [4] * 6):
            for place in faults.no_places(6):
                for at, ask in enumerate(self.by_place):
                    with self.subTest(place=place, at=at), self.assertRaises(NoPlace):
                        ask(PARENTS, hues, place)

    def test_no_part(self):
        for place in (4, 5):
            with self.subTest(place=place), self.assertRaises(NoPart):
                cut_off(PARENTS, HUES, place)
        for place in (0, 1, 2, 4, 5):
            with self.subTest(place=place), self.assertRaises(NoPart):
                cut_off(PARENTS, [4] * 6, place)


class KindsAndKeeping(unittest.TestCase):
    lists = [lambda parents, hues: own_part(parents, hues, 5), own_counts, closed_places,
             lambda parents, hues: cut_off(parents, hues, 0)[0], lambda parents, hues: cut_off(parents, hues, 0)[1],
             lambda parents, hues: cut_off(parents, hues, 3)[0], lambda parents, hues: cut_off(parents, hues, 3)[1]]
    tuples = [lambda parents, hues: own_height(parents, hues, 5), most_own,
              lambda parents, hues: cut_off(parents, hues, 0), lambda parents, hues: cut_off(parents, hues, 3)]

    def test_kinds(self):
        for ask in self.lists:
            told = ask(PARENTS, HUES)
            self.assertIs(type(told), list)
            self.assertTrue(all(each is None or type(each) is int for each in told))
        for ask in self.tuples:
            told = ask(PARENTS, HUES)
            self.assertIs(type(told), tuple)
            self.assertEqual(len(told), 2)
        for told in (*own_height(PARENTS, HUES, 5), *most_own(PARENTS, HUES), first_closed(PARENTS, HUES, 4)):
            self.assertIs(type(told), int)
        self.assertIs(type(own_part(PARENTS, HUES, 99)), list)

    def test_handed_in_stays(self):
        parents, hues = list(PARENTS), list(HUES)
        for ask in [*self.lists, *self.tuples]:
            ask(parents, hues)
        for place in range(6):
            first_closed(parents, hues, place)
        with self.assertRaises(NoPart):
            cut_off(parents, hues, 4)
        with self.assertRaises(NoPlace):
            cut_off(parents, hues, 6)
        self.assertEqual((parents, hues), (PARENTS, HUES))

    def test_told_lists_are_new(self):
        parents, hues = list(PARENTS), list(HUES)
        for ask in self.lists:
            told, same = ask(parents, hues), ask(parents, hues)
            told[0] = 77
            told.append(99)
            self.assertEqual(ask(parents, hues), same)
            self.assertEqual((parents, hues), (PARENTS, HUES))

    def test_what_was_handed_in_may_change(self):
        for ask in self.lists:
            parents, hues = list(PARENTS), list(HUES)
            told = ask(parents, hues)
            same = list(told)
            parents.clear()
            hues.clear()
            self.assertEqual(told, same)

    def test_what_is_told_may_be_handed_in(self):
        parents, hues = cut_off(PARENTS, HUES, 0)
        self.assertEqual(own_part(parents, hues, 5), [0, 2])
        self.assertEqual(cut_off(parents, hues, first_closed(parents, hues, 1)), ([None], [6]))
