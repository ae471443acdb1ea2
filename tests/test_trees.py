"""Trees, their walk, spans, depths, ways and children: [2], [5], [6], [7]."""

import itertools
import unittest

from huesbelow.errors import NoPlace, NoTree
from huesbelow.trees import children, depth, span, walk, way
from tests import plainly

BIG = plainly.BIG

# Every question about a tree, each with good places, so that only the tree can be at fault.
ASKED = [
    lambda parents: walk(parents),
    lambda parents: span(parents, 0),
    lambda parents: depth(parents, 0),
    lambda parents: way(parents, 0, 0),
    lambda parents: children(parents, 0),
]

# Every question that takes a place.
ASKED_OF_PLACE = [
    span,
    depth,
    children,
    lambda parents, place: way(parents, place, 0),
    lambda parents, place: way(parents, 0, place),
    lambda parents, place: way(parents, place, place),
]

NO_TREES = {
    "empty": [],
    "two roots": [None, None],
    "two roots and more": [None, 0, None, 2],
    "no root": [1, 0],
    "no root, one place": [0],
    "own parent": [None, 1],
    "own parent far down": [None, 0, 1, 3],
    "round about beside a root": [None, 2, 1],
    "long round about beside a root": [None, 0, 5, 2, 3, 4],
    "hanging from a round about": [None, 0, 3, 2, 3],
    "below 0": [None, -1],
    "below 0, root last": [-1, None],
    "as great as the number of places": [None, 2],
    "alone and as great": [1],
    "thirty figures": [None, BIG],
    "thirty figures below 0": [None, -BIG],
}

NO_PLACES = [-1, -2, -200, BIG, -BIG]


class WhatIsATree(unittest.TestCase):
    def test_one_place(self):
        self.assertEqual(walk([None]), [0])
        self.assertEqual(span([None], 0), (0, 1))
        self.assertEqual(depth([None], 0), 0)
        self.assertEqual(way([None], 0, 0), [0])
        self.assertEqual(children([None], 0), [])

    def test_root_at_any_number(self):
        for root in range(5):
            self.assertEqual(walk(plainly.star(5, root))[0], root)
        self.assertEqual(walk([1, 2, None]), [2, 1, 0])
        self.assertEqual(walk([1, None, 1]), [1, 0, 2])

    def test_no_trees_are_refused(self):
        for name, parents in NO_TREES.items():
            for at, ask in enumerate(ASKED):
                with self.subTest(name=name, at=at), self.assertRaises(NoTree):
                    ask(list(parents))

    def test_all_small_lists(self):
        for many in range(4):
            for found in itertools.product([None, *range(-1, many + 1)], repeat=many):
                parents = list(found)
                if plainly.is_tree(parents):
                    self.assertEqual(sorted(walk(parents)), list(range(many)))
                else:
                    with self.assertRaises(NoTree, msg=parents):
                        walk(parents)

    def test_no_tree_goes_ahead_of_no_place(self):
        for name, parents in NO_TREES.items():
            for at, ask in enumerate(ASKED_OF_PLACE):
                for place in (-1, len(parents), BIG):
                    with self.subTest(name=name, at=at), self.assertRaises(NoTree):
                        ask(list(parents), place)


class WhatIsAPlace(unittest.TestCase):
    def test_no_places_are_refused(self):
        for parents in [[None], [None, 0, 0, 1], plainly.row_tree(200), plainly.star(6, 3)]:
            for place in [*NO_PLACES, -len(parents), len(parents), len(parents) + 1]:
                for at, ask in enumerate(ASKED_OF_PLACE):
                    with self.subTest(place=place, at=at), self.assertRaises(NoPlace):
                        ask(parents, place)


class WalkAndSpan(unittest.TestCase):
    def test_ordinary(self):
        parents = [3, 3, 0, None, 0, 1]
        self.assertEqual(walk(parents), [3, 0, 2, 4, 1, 5])
        told = [span(parents, place) for place in range(6)]
        self.assertEqual(told, [(1, 4), (4, 6), (2, 3), (0, 6), (3, 4), (5, 6)])

    def test_row(self):
        self.assertEqual(walk([None, 0, 1, 2]), [0, 1, 2, 3])
        self.assertEqual([span([None, 0, 1, 2], at) for at in range(4)], [(0, 4), (1, 4), (2, 4), (3, 4)])
        self.assertEqual(walk([1, 2, 3, None]), [3, 2, 1, 0])
        self.assertEqual([span([1, 2, 3, None], at) for at in range(4)], [(3, 4), (2, 4), (1, 4), (0, 4)])

    def test_star(self):
        self.assertEqual(walk([2, 2, None, 2]), [2, 0, 1, 3])
        self.assertEqual([span([2, 2, None, 2], at) for at in range(4)], [(1, 2), (2, 3), (0, 4), (3, 4)])

    def test_against_the_plain_way(self):
        for parents in [*plainly.small_trees(4), *plainly.large_trees()]:
            self.assertEqual(walk(parents), plainly.walk(parents), parents)
            for place in range(len(parents)):
                self.assertEqual(span(parents, place), plainly.span(parents, place), (parents, place))

    def test_span_holds_what_is_below(self):
        for parents in plainly.large_trees():
            for place in range(len(parents)):
                first, beyond = span(parents, place)
                self.assertEqual(sorted(walk(parents)[first:beyond]), plainly.below(parents, place))


class DepthWayChildren(unittest.TestCase):
    parents = [3, 3, 0, None, 0, 1]

    def test_depth(self):
        self.assertEqual([depth(self.parents, place) for place in range(6)], [1, 1, 2, 0, 2, 2])

    def test_children(self):
        self.assertEqual(children(self.parents, 3), [0, 1])
        self.assertEqual(children(self.parents, 0), [2, 4])
        self.assertEqual(children(self.parents, 5), [])
        self.assertEqual(children(plainly.star(60, 30), 30), [*range(30), *range(31, 60)])
        self.assertEqual(children(plainly.star(60, 30), 31), [])

    def test_way_to_itself(self):
        for place in range(6):
            self.assertEqual(way(self.parents, place, place), [place])

    def test_way_up_and_down(self):
        self.assertEqual(way(self.parents, 4, 3), [4, 0, 3])
        self.assertEqual(way(self.parents, 3, 4), [3, 0, 4])
        self.assertEqual(way(self.parents, 4, 0), [4, 0])
        self.assertEqual(way(self.parents, 0, 4), [0, 4])

    def test_way_over_a_place_above_both(self):
        self.assertEqual(way(self.parents, 2, 5), [2, 0, 3, 1, 5])
        self.assertEqual(way(self.parents, 5, 2), [5, 1, 3, 0, 2])
        self.assertEqual(way(self.parents, 2, 4), [2, 0, 4])
        self.assertEqual(way(self.parents, 4, 2), [4, 0, 2])

    def test_against_the_plain_way(self):
        for parents in [*plainly.small_trees(4), *plainly.large_trees()]:
            for one in range(len(parents)):
                self.assertEqual(depth(parents, one), len(plainly.from_root(parents, one)) - 1)
                under = [place for place in range(len(parents)) if parents[place] == one]
                self.assertEqual(children(parents, one), under)
                for other in range(len(parents)):
                    self.assertEqual(way(parents, one, other), plainly.way(parents, one, other))


class LongRows(unittest.TestCase):
    def test_long_rows(self):
        for many in (200, 230, 1500):
            parents = plainly.row_tree(many)
            self.assertEqual(walk(parents), list(range(many)))
            self.assertEqual(span(parents, many - 3), (many - 3, many))
            self.assertEqual(depth(parents, many - 1), many - 1)
            self.assertEqual(way(parents, 0, many - 1), list(range(many)))
            self.assertEqual(way(parents, many - 1, 0), list(range(many))[::-1])
            self.assertEqual(children(parents, many - 2), [many - 1])

    def test_backward(self):
        parents = plainly.backward_row(200)
        self.assertEqual(walk(parents), list(range(200))[::-1])
        self.assertEqual(span(parents, 0), (199, 200))
        self.assertEqual(depth(parents, 0), 199)

    def test_wide(self):
        parents = plainly.star(200)
        self.assertEqual(walk(parents), list(range(200)))
        self.assertEqual(children(parents, 0), list(range(1, 200)))


class KindsAndKeeping(unittest.TestCase):
    parents = [3, 3, 0, None, 0, 1]

    def lists(self, parents):
        return [walk(parents), way(parents, 2, 5), way(parents, 5, 5), children(parents, 3), children(parents, 2)]

    def test_kinds(self):
        for told in self.lists(self.parents):
            self.assertIs(type(told), list)
            self.assertTrue(all(type(place) is int for place in told))
        told = span(self.parents, 0)
        self.assertIs(type(told), tuple)
        self.assertEqual([type(number) for number in told], [int, int])
        for place in range(6):
            self.assertIs(type(depth(self.parents, place)), int)

    def test_handed_in_stays(self):
        for ask in ASKED:
            parents = list(self.parents)
            ask(parents)
            self.assertEqual(parents, self.parents)

    def test_refused_stays(self):
        for fault in NO_TREES.values():
            parents = list(fault)
            with self.assertRaises(NoTree):
                walk(parents)
            self.assertEqual(parents, fault)

    def test_told_lists_are_new(self):
        parents = list(self.parents)
        right = self.lists(parents)
        for told in self.lists(parents):
            told.append(99)
            told[0] = 77
        self.assertEqual(self.lists(parents), right)
        self.assertEqual(parents, self.parents)

    def test_what_was_handed_in_may_change(self):
        parents = list(self.parents)
        told = self.lists(parents)
        right = [list(each) for each in told]
        parents[:] = [None, 0]
        self.assertEqual(told, right)
        self.assertEqual(walk(parents), [0, 1])
        self.assertEqual(self.lists(list(self.parents)), right)
