"""Grown trees: [2], [3], [4], [20], [21]."""

import random
import unittest

from huesbelow.errors import NoLeaf, NoPlace
from huesbelow.grown import Grown
from huesbelow.lasts import hues_below, unlike_all, unlike_below
from huesbelow.lowest import lowest_holding
from huesbelow.often import most_all, most_frequent
from huesbelow.parts import places_of
from huesbelow.trees import span, walk
from tests import plainly
from tests.kept import SOME_HUES, Kept

BIG = plainly.BIG

ASKED = ["parent", "hue", "unlike", "many", "most", "hues"]


def grown_of(rows, hue=5):
    """A grown tree with leaves (place, hue) put to it one behind the other."""
    tree = Grown(hue)
    for place, each in rows:
        tree.leaf(place, each)
    return tree


def look(tree):
    """All that a grown tree tells."""
    told = [[getattr(tree, name)(place) for name in ASKED] for place in tree.places()]
    return (tree.places(), told, tree.plain())


class Compared(unittest.TestCase):
    def same(self, tree, kept):
        """Every question of every place, and of what is no place, against the tree that is kept plainly."""
        self.assertEqual(tree.places(), kept.places())
        self.assertEqual(tree.plain(), kept.plain())
        for place, below in kept.all_below().items():
            self.assertEqual(tree.parent(place), kept.parent(place), place)
            self.assertEqual(tree.hue(place), kept.hue(place), place)
            self.assertEqual(tree.many(place), len(below), place)
            self.assertEqual(tree.hues(place), kept.hues_among(below), place)
            self.assertEqual(tree.unlike(place), len(kept.hues_among(below)), place)
            self.assertEqual(tree.most(place), kept.most_among(below), place)
        for place in kept.no_places():
            for name in ASKED:
                with self.assertRaises(NoPlace, msg=(name, place)):
                    getattr(tree, name)(place)

    def deed(self, tree, kept, chance, putting):
        """One drawn deed at both trees, sometimes one that is refused."""
        word = chance.choices(["leaf", "take", "change"], [putting, 3, 2])[0]
        place = kept.any_place(chance, word == "take")
        hue = chance.choice(SOME_HUES)
        handed = (place,) if word == "take" else (place, hue)
        refusal = kept.refusal(place, word == "take")
        if refusal is not None:
            with self.assertRaises(refusal, msg=(word, place)):
                getattr(tree, word)(*handed)
        else:
            self.assertEqual(getattr(tree, word)(*handed), getattr(kept, word)(*handed))


class Begun(unittest.TestCase):
    def test_the_root_alone(self):
        for hue in (7, 0, -1, BIG, -BIG):
            tree = Grown(hue)
            self.assertEqual(tree.places(), [0])
            self.assertIsNone(tree.parent(0))
            self.assertEqual(tree.hue(0), hue)
            self.assertEqual((tree.unlike(0), tree.many(0)), (1, 1))
            self.assertEqual(tree.most(0), (1, hue))
            self.assertEqual(tree.hues(0), [hue])
            self.assertEqual(tree.plain(), ([None], [hue]))


class Leaves(unittest.TestCase):
    def test_the_next_number_is_told(self):
        tree = Grown(5)
        self.assertEqual([tree.leaf(place, 1) for place in (0, 0, 1, 2, 0)], [1, 2, 3, 4, 5])
        self.assertEqual([tree.parent(place) for place in tree.places()], [None, 0, 0, 1, 2, 0])

    def test_numbers_never_come_again(self):
        tree = grown_of([(0, 1), (0, 2), (1, 3)])
        tree.take(3)
        self.assertEqual(tree.leaf(0, 8), 4)
        tree.take(4)
        tree.take(2)
        tree.take(1)
        self.assertEqual(tree.places(), [0])
        self.assertEqual(tree.leaf(0, 9), 5)
        self.assertEqual(tree.leaf(5, 9), 6)
        self.assertEqual(tree.places(), [0, 5, 6])
        self.assertEqual(tree.plain(), ([None, 0, 1], [5, 9, 9]))

    def test_one_leaf_put_and_taken_over_and_over(self):
        tree = Grown(1)
        for number in range(1, 220):
            self.assertEqual(tree.leaf(0, number), number)
            self.assertEqual(tree.hues(0), [1, number] if number > 1 else [1])
            tree.take(number)
            self.assertEqual(tree.places(), [0])
            with self.assertRaises(NoPlace):
                tree.take(number)

    def test_nothing_is_told_of_other_deeds(self):
        tree = grown_of([(0, 1)])
        self.assertIsNone(tree.change(0, 4))
        self.assertIsNone(tree.take(1))

    def test_a_place_is_a_leaf_again(self):
        tree = grown_of([(0, 1), (1, 2)])
        with self.assertRaises(NoLeaf):
            tree.take(1)
        tree.take(2)
        tree.take(1)
        self.assertEqual(look(tree), look(Grown(5)))


class Hues(unittest.TestCase):
    def test_changed(self):
        tree = grown_of([(0, 1), (1, 1), (0, 2)])
        self.assertEqual(tree.hues(0), [1, 2, 5])
        tree.change(0, 1)
        self.assertEqual((tree.hues(0), tree.most(0), tree.hue(0)), ([1, 2], (3, 1), 1))
        tree.change(2, -BIG)
        self.assertEqual((tree.hues(1), tree.unlike(1), tree.most(1)), ([-BIG, 1], 2, (1, -BIG)))
        tree.change(3, 2)
        self.assertEqual(tree.hues(0), [-BIG, 1, 2])

    def test_as_frequent_as_each_other(self):
        tree = grown_of([(0, 9), (0, 3), (0, 9), (0, 3)], 9)
        self.assertEqual(tree.most(0), (3, 9))
        tree.change(0, 3)
        self.assertEqual(tree.most(0), (3, 3))
        tree.take(2)
        self.assertEqual(tree.most(0), (2, 3))
        tree.change(0, 0)
        self.assertEqual(tree.most(0), (2, 9))
        tree.take(1)
        self.assertEqual(tree.most(0), (1, 0))
        tree.change(0, 100)
        self.assertEqual(tree.most(0), (1, 3))


class Refusals(unittest.TestCase):
    def setUp(self):
        self.tree = grown_of([(0, 1), (0, 2), (1, 3), (3, 1), (0, 6)])
        self.tree.take(5)
        self.before = look(self.tree)
        self.no_places = [-1, -2, -5, -6, -BIG, 5, 6, 7, 220, BIG]

    def tearDown(self):
        self.assertEqual(look(self.tree), self.before)
        self.assertEqual(self.tree.leaf(2, 0), 6)

    def test_no_place_at_each_deed(self):
        for place in self.no_places:
            with self.subTest(place=place):
                with self.assertRaises(NoPlace):
                    self.tree.leaf(place, 1)
                with self.assertRaises(NoPlace):
                    self.tree.take(place)
                with self.assertRaises(NoPlace):
                    self.tree.change(place, 1)

    def test_no_place_at_each_question(self):
        for place in self.no_places:
            for name in ASKED:
                with self.subTest(place=place, name=name), self.assertRaises(NoPlace):
                    getattr(self.tree, name)(place)

    def test_no_leaf_where_something_is_below(self):
        for place in (0, 1, 3):
            with self.subTest(place=place), self.assertRaises(NoLeaf):
                self.tree.take(place)

    def test_no_leaf_at_the_root_alone(self):
        tree = Grown(1)
        for _ in range(2):
            with self.assertRaises(NoLeaf):
                tree.take(0)
        self.assertEqual(look(tree), look(Grown(1)))
        self.assertEqual(tree.leaf(0, 1), 1)
        tree.take(1)
        with self.assertRaises(NoLeaf):
            tree.take(0)
        self.assertEqual(tree.leaf(0, 1), 2)


class DrawnOrders(Compared):
    def run_through(self, seed, deeds, putting, most=25):
        chance = random.Random(seed)
        hue = chance.choice(SOME_HUES)
        tree, kept = Grown(hue), Kept([None], [hue])
        for _ in range(deeds):
            full = len(kept.places()) >= most or len(kept.rows) >= 220
            self.deed(tree, kept, chance, 0 if full else putting)
            self.same(tree, kept)
        return kept

    def test_many_short_ones(self):
        for seed in range(40):
            self.run_through(seed, 25, 3 + seed % 4)

    def test_until_all_numbers_are_given(self):
        kept = self.run_through(1, 800, 4, 14)
        self.assertEqual(len(kept.rows), 220)

    def test_a_hundred_places(self):
        kept = self.run_through(2, 130, 100, 100)
        self.assertGreater(len(kept.places()), 90)

    def test_two_beside_each_other(self):
        chance = random.Random(3)
        trees = [Grown(1), Grown(1), Grown(2)]
        kepts = [Kept([None], [1]), Kept([None], [1]), Kept([None], [2])]
        for _ in range(60):
            at = chance.randrange(3)
            self.deed(trees[at], kepts[at], chance, 5)
            for tree, kept in zip(trees, kepts):
                self.same(tree, kept)


class Rows(Compared):
    def test_a_hundred_places_one_below_the_other(self):
        tree, kept = Grown(0), Kept([None], [0])
        for number in range(1, 100):
            hue = number % 13 - 4
            self.assertEqual(tree.leaf(number - 1, hue), number)
            kept.leaf(number - 1, hue)
        self.same(tree, kept)
        for place in (0, 1, 50, 98):
            with self.assertRaises(NoLeaf):
                tree.take(place)
        for place in range(99, 0, -1):
            tree.take(place)
            kept.take(place)
            if place % 9 == 0:
                self.same(tree, kept)
        self.assertEqual(tree.leaf(0, 3), 100)

    def test_two_hundred_and_twenty_numbers_and_some_more(self):
        for many in (220, 260, 1100):
            tree = grown_of([(place, place + 1) for place in range(many - 1)], 0)
            self.assertEqual(tree.places(), list(range(many)))
            self.assertEqual((tree.unlike(0), tree.many(0)), (many, many))
            self.assertEqual((tree.many(many - 1), tree.parent(many - 1)), (1, many - 2))
            self.assertEqual(tree.plain(), (plainly.row_tree(many), list(range(many))))


class PlainTrees(unittest.TestCase):
    def test_numbered_anew(self):
        tree = grown_of([(0, 1), (0, 2), (1, 3), (2, 4), (4, 6)])
        tree.take(3)
        tree.take(1)
        self.assertEqual(tree.places(), [0, 2, 4, 5])
        self.assertEqual(tree.plain(), ([None, 0, 1, 2], [5, 2, 4, 6]))

    def test_against_the_functions_for_plain_trees(self):
        for seed in range(12):
            chance = random.Random(seed)
            tree = Grown(1)
            for _ in range(60):
                tree.leaf(chance.choice(tree.places()), chance.choice(SOME_HUES))
                place = chance.choice(tree.places()[1:])
                if tree.many(place) == 1 and chance.randrange(2):
                    tree.take(place)
            places = tree.places()
            parents, hues = tree.plain()
            self.assertEqual(len(walk(parents)), len(places))
            self.assertEqual([tree.unlike(place) for place in places], unlike_all(parents, hues))
            self.assertEqual([tree.most(place) for place in places], most_all(parents, hues))
            for number, place in enumerate(places):
                first, beyond = span(parents, number)
                self.assertEqual(tree.many(place), beyond - first)
                self.assertEqual(tree.unlike(place), unlike_below(parents, hues, number))
                self.assertEqual(tree.hues(place), hues_below(parents, hues, number))
                self.assertEqual(tree.most(place), most_frequent(parents, hues, ("below", number)))
                self.assertEqual(len(places_of(parents, ("below", number))), tree.many(place))
                self.assertEqual(tree.hue(place), hues[number])
            self.assertIsNotNone(lowest_holding(parents, hues, tree.hues(0)))


class KindsAndKeeping(unittest.TestCase):
    def setUp(self):
        self.tree = grown_of([(0, 1), (0, -BIG), (1, BIG)])

    def test_kinds(self):
        tree = self.tree
        for told in (tree.places(), tree.hues(0), tree.hues(3), *tree.plain()):
            self.assertIs(type(told), list)
            self.assertTrue(all(each is None or type(each) is int for each in told))
        for told in (tree.most(0), tree.most(3), tree.plain()):
            self.assertIs(type(told), tuple)
            self.assertEqual(len(told), 2)
        self.assertEqual([type(number) for number in tree.most(0)], [int, int])
        for told in (tree.parent(1), tree.hue(1), tree.unlike(1), tree.many(1), tree.leaf(1, 1)):
            self.assertIs(type(told), int)

    def test_told_lists_are_the_askers_own(self):
        before = look(self.tree)
        for told in (self.tree.places(), self.tree.hues(0), *self.tree.plain()):
            told[0] = 77
            told.append(99)
            self.assertEqual(look(self.tree), before)
            told.clear()
            self.assertEqual(look(self.tree), before)

    def test_told_lists_stay_as_they_are(self):
        places, hues, plain = self.tree.places(), self.tree.hues(0), self.tree.plain()
        self.tree.leaf(0, 44)
        self.tree.take(3)
        self.tree.change(0, 45)
        self.assertEqual((places, hues), ([0, 1, 2, 3], [-BIG, 1, 5, BIG]))
        self.assertEqual(plain, ([None, 0, 0, 1], [5, 1, -BIG, BIG]))

    def test_what_is_told_may_be_handed_in(self):
        tree = Grown(self.tree.hue(3))
        place = tree.leaf(tree.places()[0], self.tree.most(0)[1])
        tree.change(place, self.tree.hues(0)[0])
        self.assertEqual(tree.plain(), ([None, 0], [BIG, -BIG]))
