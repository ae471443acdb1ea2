"""Trees and their hues as texts: [2], [3], [5], [22]."""

import itertools
import unittest

from huesbelow.errors import NoHues, NoText, NoTree
from huesbelow.texts import read_tree, tree_text
from tests import faults, plainly
from tests.kept import read

BIG = plainly.BIG
LONGEST = 10 ** 30 - 1

PARENTS = [3, 3, 0, None, 0, 1]
HUES = [5, -2, 0, 5, BIG, -BIG]
WRITTEN = f"3:5 3:-2 0:0 -:5 0:{BIG} 1:-{BIG}"

NO_TEXTS = """:|-|0|-:|:5|--:5|5|-5|-:5:|:-:5|-::5|-:5:6|-:5 0|-:5 0:|-:5 :6|-:5 0-6|-5 0:6|-:5 0:6 7|-:5 7 0:6|-:-
-:--5|-:+5|-:05|-:00|-:-0|-:-05|-:-00|-:000|-:0x5|-:5x|-:x|-:5.0|-:1_0|-:5,0:6|-:5;0:6|-: 5|- :5|-:- 5|-:5-|-:5+|-:1e3|-:"5"
-:5 00:6|-:5 01:6|-:5 +0:6|-:5 -0:6|-:5 -1:6|-:5 --:6|-:5 0_0:6|-:5 x:6|-:5 0x0:6|-:5 0.:6|-:5 None:6|None:5|-:None|-:~|~:5|!:5|-:/
 |  | -:5|-:5 |  -:5|-:5  | -:5 |-:5  0:6|-:5   0:6|-:5 0:6 | -:5 0:6|-:5  0:6 1:7|-:5 0:6  1:7|-:5 0 :6|-:5 0: 6|-:5 0 6"""

NO_TREES = ["0:5", "1:5", "-:5 -:6", "-:5 -:5", "0:5 1:6", "1:5 0:6", "-:5 1:6", "-:5 2:6", "-:5 2:6 1:7", "-:5 3:6 0:7",
            f"-:5 {BIG}:6", f"{BIG}:6", f"-:5 {LONGEST}:6", "-:5 2:6 3:7 1:8", "1:5 2:6 0:7", "-:5 0:6 -:7", "-:0 2:0 2:0"]


class TreeText(unittest.TestCase):
    def test_ordinary(self):
        self.assertEqual(tree_text(PARENTS, HUES), WRITTEN)

    def test_one_place(self):
        for hue in (0, 7, -7, 10, -10, BIG, -BIG, LONGEST, -LONGEST):
            self.assertEqual(tree_text([None], [hue]), "-:" + str(hue))

    def test_longer_hues_are_written_too(self):
        self.assertEqual(tree_text([None], [10 ** 30]), "-:1" + "0" * 30)

    def test_no_tree_goes_first(self):
        for parents in faults.NO_TREES:
            for hues in ([1] * len(parents), [1] * (len(parents) + 1), []):
                with self.subTest(parents=parents, hues=hues), self.assertRaises(NoTree):
                    tree_text(parents, hues)

    def test_no_hues(self):
        for hues in ([], [1] * 5, [1] * 7, [1] * 12):
            with self.subTest(hues=hues), self.assertRaises(NoHues):
                tree_text(PARENTS, hues)


class ReadTree(unittest.TestCase):
    def test_ordinary(self):
        self.assertEqual(read_tree(WRITTEN), (PARENTS, HUES))
        self.assertEqual(read_tree("1:7 -:-7"), ([1, None], [7, -7]))

    def test_hues(self):
        for hue in (0, 1, -1, 9, 10, -10, 100, BIG, -BIG, LONGEST, -LONGEST):
            self.assertEqual(read_tree(f"-:{hue}"), ([None], [hue]))
            self.assertEqual(read_tree(f"-:5 0:{hue}"), ([None, 0], [5, hue]))

    def test_places_of_several_figures(self):
        text = " ".join(["-:1"] + [f"{place}:2" for place in range(119)])
        self.assertEqual(read_tree(text), (plainly.row_tree(120), [1] + [2] * 119))


class BackAndForth(unittest.TestCase):
    def check(self, parents, hues):
        text = tree_text(parents, hues)
        self.assertEqual(read_tree(text), (parents, hues))
        self.assertEqual(tree_text(*read_tree(text)), text)
        self.assertEqual(text.count(" "), len(parents) - 1)
        self.assertEqual(text.count(":"), len(parents))

    def test_small_trees(self):
        for seed, parents in enumerate(plainly.small_trees(5)):
            self.check(parents, plainly.mixed_hues(len(parents), seed))

    def test_larger_trees(self):
        for seed, parents in enumerate(plainly.large_trees()):
            self.check(parents, plainly.mixed_hues(len(parents), seed))

    def test_long(self):
        for parents in (plainly.row_tree(200), plainly.backward_row(200), plainly.star(230, 77), plainly.row_tree(1100)):
            self.check(parents, [place - 90 for place in range(len(parents))])


class NoTexts(unittest.TestCase):
    def refused(self, text):
        with self.subTest(text=text), self.assertRaises(NoText):
            read_tree(text)

    def test_the_empty_one(self):
        self.refused("")

    def test_other_forms(self):
        for text in NO_TEXTS.replace("\n", "|").split("|"):
            self.refused(text)

    def test_line_feeds(self):
        for text in ("\n", "-:5\n", "\n-:5", "-:5\n0:6", "-:5 \n0:6", "-:5 0:6\n", "-\n:5", "-:\n5", "-:5 0\n:6", "-:5\n 0:6"):
            self.refused(text)

    def test_too_many_figures(self):
        long = "1" + "0" * 30
        for text in (f"-:{long}", f"-:-{long}", f"{long}:5", f"-:5 {long}:6", f"-:5 0:{long}", f"-:5 0:-{long}", f"-:0{LONGEST}"):
            self.refused(text)
        self.refused(f"-:{'9' * 31} 0:6")
        self.refused(f"-:{'9' * 200}")
        self.refused(f"-:{'9' * 5000}")

    def test_ahead_of_no_tree(self):
        for text in NO_TREES:
            for more in (" ", " 0:", " 0:05", " 01:5", " 5", " x:5", f" {LONGEST}0:5", "  0:5", "\n"):
                self.refused(text + more)
            for more in (" ", "x ", "5 ", "0:-0 ", ": "):
                self.refused(more + text)

    def test_signs_at_each_place_of_a_text(self):
        for at in range(len("-:5 0:-60") + 1):
            for sign in " -:05+x.\n":
                for cut in (0, 1):
                    text = "-:5 0:-60"[:at] + sign + "-:5 0:-60"[at + cut:]
                    self.told(text)

    def told(self, text):
        right = read(text)
        if isinstance(right, tuple):
            self.assertEqual(read_tree(text), right, text)
        else:
            with self.assertRaises(right, msg=text):
                read_tree(text)

    def test_every_short_text(self):
        for many in range(6):
            for signs in itertools.product("-:01 \n", repeat=many):
                self.told("".join(signs))

    def test_every_text_of_some_pieces(self):
        pieces = ["-:5", "0:6", "1:-7", "2:0", "", "-:-0", "3:1", " "]
        for many in range(1, 5):
            for words in itertools.product(pieces, repeat=many):
                self.told(" ".join(words))


class NoTrees(unittest.TestCase):
    def test_of_the_form(self):
        for text in NO_TREES:
            with self.subTest(text=text), self.assertRaises(NoTree):
                read_tree(text)


class KindsAndKeeping(unittest.TestCase):
    def test_kinds(self):
        self.assertIs(type(tree_text(PARENTS, HUES)), str)
        told = read_tree(WRITTEN)
        self.assertIs(type(told), tuple)
        self.assertEqual([type(each) for each in told], [list, list])
        self.assertEqual([type(each) for each in told[0]], [int, int, int, type(None), int, int])
        self.assertEqual([type(each) for each in told[1]], [int] * 6)

    def test_handed_in_stays(self):
        parents, hues = list(PARENTS), list(HUES)
        tree_text(parents, hues)
        with self.assertRaises(NoHues):
            tree_text(parents, hues[1:])
        self.assertEqual((parents, hues), (PARENTS, HUES))

    def test_told_lists_are_new(self):
        parents, hues = read_tree(WRITTEN)
        parents.clear()
        hues[0] = 99
        self.assertEqual(read_tree(WRITTEN), (PARENTS, HUES))
