"""The desk: [2], [3], [4], [23], [24]."""

import random
import unittest

from huesbelow.desk import Desk
from huesbelow.errors import HueError, NoForm, NoLeaf, NoneYet, NoPlace, NoText, NoTree
from huesbelow.texts import tree_text
from tests import plainly
from tests.kept import SOME_HUES, KeptDesk

BIG = plainly.BIG
LONG = 10 ** 30

TEXT = f"3:5 3:-2 0:5 -:5 0:{BIG} 1:5"

RIGHT = ["leaf 0 7", "leaf 1 -7", "leaf 3 0", "take 2", "take 4", "hue 0 -3", "hue 4 12", "below 3", "below 0", "most 1",
         "most 3", "hues 0", "hues 3", "lowest 5", "lowest -2 5", "lowest 0", "lowest 5 5 -2 0", "text", "leaf 999 1",
         "take 100", "hue 10 10", f"leaf 2 {LONG - 1}", f"hue 2 -{LONG - 1}"]

# What stands in a row of a form where a place or a hue is due, and is none.
NO_PLACES = ["", "00", "01", "007", "000", "1000", "0000", "9999", "-1", "-0", "+1", "x", "1x", "1.0", "1_0", "P", "-", str(BIG)]
NO_HUES = ["", "00", "01", "-0", "-00", "-01", "+1", "--1", "-", "x", "1x", "1.0", "1_0", "H", str(LONG), str(-LONG), "0" * 31]

# Texts that reading refuses.
NO_TEXTS = ["", " ", "-:5 ", " -:5", "-:5  0:6", "5", "-:05", "-:-0", "tree -:5", f"-:{LONG}", "~", "text"]
NO_TREES = ["0:5", "-:5 -:6", "-:5 2:6", "1:5 0:6", f"-:5 {BIG}:6"]


def desk_with(text):
    desk = Desk()
    desk.say("tree " + text)
    return desk


def every_answer(desk):
    """What a desk answers of all its places, or None where it has no tree."""
    try:
        text = desk.say("text")
    except NoneYet:
        return None
    told = [text]
    for place in range(230):
        for word in ("below", "most", "hues"):
            try:
                told.append(desk.say(f"{word} {place}"))
            except NoPlace:
                told.append(None)
    return told


class Rows(unittest.TestCase):
    def setUp(self):
        self.desk = desk_with(TEXT)

    def say(self, row, answer):
        told = self.desk.say(row)
        self.assertEqual(told, answer)
        self.assertIs(type(told), str)

    def test_tree(self):
        self.say("tree -:5", "places 1")
        self.say("tree " + TEXT, "places 6")
        self.say("tree 1:0 -:-1", "places 2")

    def test_leaf(self):
        self.say("leaf 5 9", "place 6")
        self.say("leaf 6 -9", "place 7")
        self.say("below 5", "3 3")
        self.say("hues 5", "-9 5 9")

    def test_take(self):
        self.say("take 5", "places 5")
        self.say("take 1", "places 4")
        self.say("below 3", "2 4")

    def test_numbers_never_come_again(self):
        self.say("take 5", "places 5")
        self.say("leaf 1 8", "place 6")
        self.say("take 6", "places 5")
        self.say("leaf 0 8", "place 7")

    def test_hue(self):
        self.say("hue 3 -2", "places 6")
        self.say("most 3", "3 5")
        self.say("hue 5 -2", "places 6")
        self.say("most 3", "3 -2")
        self.say("hues 1", "-2")

    def test_below(self):
        self.say("below 3", "3 6")
        self.say("below 0", "2 3")
        self.say("below 4", "1 1")

    def test_most(self):
        self.say("most 3", "4 5")
        self.say("most 1", "1 -2")
        self.say("most 4", f"1 {BIG}")

    def test_hues(self):
        self.say("hues 3", f"-2 5 {BIG}")
        self.say("hues 1", "-2 5")
        self.say("hues 2", "5")

    def test_lowest(self):
        self.say("lowest 5", "2")
        self.say("lowest -2", "1")
        self.say(f"lowest {BIG} 5", "0")
        self.say(f"lowest {BIG} -2", "3")
        self.say("lowest 5 5 5", "2")
        self.say("lowest 6", "none")
        self.say("lowest 5 6", "none")
        self.say("lowest 0", "none")

    def test_lowest_of_twenty(self):
        self.say("lowest" + " 5" * 20, "2")
        self.say("lowest" + " -2 5" * 10, "1")
        self.say("lowest" + " 5" * 19 + " 6", "none")

    def test_text(self):
        self.say("text", TEXT)
        self.say("leaf 0 7", "place 6")
        self.say("take 2", "places 6")
        self.say("text", f"2:5 2:-2 -:5 0:{BIG} 1:5 0:7")

    def test_numbers_of_the_desk_are_not_those_of_the_plain_tree(self):
        self.say("take 2", "places 5")
        self.say("lowest 5", "5")
        self.say(f"lowest {BIG}", "4")
        self.say("leaf 4 33", "place 6")
        self.say("take 5", "places 5")
        self.say("lowest 33", "6")
        self.say("lowest 5", "0")
        self.say(f"lowest 33 {BIG}", "4")
        self.say("text", f"2:5 2:-2 -:5 0:{BIG} 3:33")

    def test_a_root_that_is_not_the_first(self):
        self.say("tree 1:5 -:6", "places 2")
        self.say("leaf 1 7", "place 2")
        self.say("take 0", "places 2")
        with self.assertRaises(NoPlace):
            self.desk.say("below 0")
        with self.assertRaises(NoLeaf):
            self.desk.say("take 1")
        self.say("text", "-:6 0:7")
        self.say("lowest 7", "2")


class Forms(unittest.TestCase):
    def no_form(self, row):
        for desk in (Desk(), desk_with(TEXT)):
            before = every_answer(desk)
            with self.subTest(row=row), self.assertRaises(NoForm):
                desk.say(row)
            self.assertEqual(every_answer(desk), before)

    def test_other_words(self):
        for row in ("", "x", "0", "-:5", "tree", "Tree -:5", "TREE -:5", "trees -:5", "tree-:5", "treetext", "leaf0 7", "texts"):
            self.no_form(row)
        for row in ("Text", "leave 0 7", "place 0", "places", "plain", "none", "unlike 0", "many 0", "lowest5", "below0", "~"):
            self.no_form(row)

    def test_the_empty_row_and_blanks(self):
        for row in ("", " ", "  ", " text", "text ", " tree -:5", "  tree -:5", " tree"):
            self.no_form(row)

    def test_too_few_words(self):
        for row in ("leaf", "leaf 0", "take", "hue", "hue 0", "below", "most", "hues", "lowest", "tree"):
            self.no_form(row)
            if row != "tree":
                self.no_form(row + " ")

    def test_too_many_words(self):
        for row in ("leaf 0 1 2", "take 2 2", "hue 0 1 2", "below 0 0", "most 0 0", "hues 0 0", "text 0", "text text", "text -:5"):
            self.no_form(row)

    def test_blanks(self):
        for row in RIGHT:
            for wrong in (" " + row, row + " ", "  " + row, row + "  ", " " + row + " "):
                self.no_form(wrong)
            for at, sign in enumerate(row):
                if sign == " ":
                    self.no_form(row[:at] + " " + row[at:])
                    self.no_form(row[:at] + "  " + row[at:])

    def test_places(self):
        for place in NO_PLACES:
            for row in ("leaf {} 7", "take {}", "hue {} 7", "below {}", "most {}", "hues {}"):
                self.no_form(row.replace("{}", place))

    def test_hues(self):
        for hue in NO_HUES:
            for row in ("leaf 0 {}", "hue 0 {}", "lowest {}", "lowest 5 {}", "lowest {} 5", "lowest 5 {} 5"):
                self.no_form(row.replace("{}", hue))
        self.no_form("lowest" + " 5" * 19 + " 05")

    def test_how_many_hues(self):
        for many in (21, 22, 30, 200):
            self.no_form("lowest" + " 5" * many)
        self.no_form("lowest")
        self.no_form("lowest ")

    def test_line_feeds(self):
        for row in [*RIGHT, "tree " + TEXT, "tree -:5", "tree ", "tree 0:5", "tree x", "tree", ""]:
            for at in {0, 4, 5, 6, len(row) - 1, len(row)}:
                if 0 <= at <= len(row):
                    self.no_form(row[:at] + "\n" + row[at:])
        self.no_form("text\ntext")
        self.no_form("tree -:5\n0:6")

    def test_one_sign_more_less_or_other(self):
        # Held against a desk that knows the forms as one pattern.
        for row in [*RIGHT, "tree -:5 0:6"]:
            for at in range(len(row) + 1):
                for sign in " 0-5xe\n":
                    self.both(row[:at] + sign + row[at:])
                    self.both(row[:at] + sign + row[at + 1:])
                self.both(row[:at] + row[at + 1:])

    def both(self, row):
        desk, kept = desk_with(TEXT), KeptDesk()
        kept.say("tree " + TEXT)
        self.assertEqual(told_by(desk, row), kept.say(row), row)


def told_by(desk, row):
    """The answer, or the class of what was refused."""
    try:
        return desk.say(row)
    except HueError as error:
        return type(error)


class Refusals(unittest.TestCase):
    def refused(self, desk, row, error):
        before = every_answer(desk)
        for _ in range(2):
            with self.subTest(row=row), self.assertRaises(error) as caught:
                desk.say(row)
            self.assertIs(type(caught.exception), error)
            self.assertEqual(every_answer(desk), before)

    def test_none_yet(self):
        for row in RIGHT:
            self.refused(Desk(), row, NoneYet)

    def test_reading(self):
        for desk in (Desk(), desk_with(TEXT)):
            for text in NO_TEXTS:
                self.refused(desk, "tree " + text, NoText)
            for text in NO_TREES:
                self.refused(desk, "tree " + text, NoTree)

    def test_tree_with_nothing_behind_it(self):
        self.refused(Desk(), "tree ", NoText)
        self.refused(desk_with(TEXT), "tree ", NoText)
        self.refused(desk_with(TEXT), "tree  ", NoText)

    def test_no_place(self):
        desk = desk_with(TEXT)
        desk.say("take 5")
        for place in (5, 6, 7, 10, 99, 999):
            for row in (f"leaf {place} 7", f"take {place}", f"hue {place} 7", f"below {place}", f"most {place}", f"hues {place}"):
                self.refused(desk, row, NoPlace)
        self.assertEqual(desk.say("leaf 0 7"), "place 6")

    def test_no_leaf(self):
        desk = desk_with(TEXT)
        for place in (0, 1, 3):
            self.refused(desk, f"take {place}", NoLeaf)
        self.assertEqual(desk.say("leaf 0 7"), "place 6")
        self.refused(desk_with("-:5"), "take 0", NoLeaf)

    def test_which_goes_first(self):
        self.refused(Desk(), "take 00", NoForm)
        self.refused(Desk(), "take 0 ", NoForm)
        self.refused(Desk(), "lowest", NoForm)
        self.refused(Desk(), "tree x\n", NoForm)
        self.refused(Desk(), "tree 0:5 x", NoText)
        self.refused(Desk(), "tree 0:5", NoTree)
        self.refused(Desk(), "take 0", NoneYet)
        self.refused(Desk(), "below 999", NoneYet)
        self.refused(desk_with(TEXT), "leaf 1000 5", NoForm)
        self.refused(desk_with(TEXT), "leaf 999 -0", NoForm)
        self.refused(desk_with(TEXT), "leaf 999 5", NoPlace)

    def test_a_refused_tree_leaves_the_desk_without_one(self):
        desk = Desk()
        for row in ("tree ", "tree x", "tree 0:5", "tree", "tree -:5\n"):
            with self.assertRaises(HueError):
                desk.say(row)
            with self.assertRaises(NoneYet):
                desk.say("text")

    def test_a_refused_tree_leaves_the_next_number(self):
        desk = desk_with("-:5 0:6")
        desk.say("leaf 0 7")
        desk.say("take 2")
        for row in ("tree ", "tree x", "tree -:1 -:2", "tree -:1 0:2 0:3 9:4", "tree", "tree -:5\n"):
            with self.assertRaises(HueError):
                desk.say(row)
        self.assertEqual(desk.say("leaf 1 8"), "place 3")
        self.assertEqual(desk.say("text"), "-:5 0:6 1:8")


class Trees(unittest.TestCase):
    def test_another_tree_forgets_the_first_one(self):
        desk = desk_with(TEXT)
        desk.say("leaf 0 7")
        desk.say("take 2")
        self.assertEqual(desk.say("tree -:1 0:2"), "places 2")
        self.assertEqual(desk.say("text"), "-:1 0:2")
        self.assertEqual(desk.say("lowest 5"), "none")
        for place in (2, 3, 6):
            with self.assertRaises(NoPlace):
                desk.say(f"below {place}")
        self.assertEqual(desk.say("leaf 1 3"), "place 2")
        self.assertEqual(desk.say("tree " + TEXT), "places 6")
        self.assertEqual(desk.say("hues 2"), "5")
        self.assertEqual(desk.say("leaf 5 3"), "place 6")

    def test_two_desks(self):
        one, other = desk_with(TEXT), Desk()
        with self.assertRaises(NoneYet):
            other.say("text")
        other.say("tree -:1")
        self.assertEqual(one.say("leaf 0 7"), "place 6")
        self.assertEqual(other.say("leaf 0 7"), "place 1")
        self.assertEqual(one.say("text"), TEXT + " 0:7")
        self.assertEqual(other.say("text"), "-:1 0:7")
        same = desk_with(TEXT)
        one.say("hue 3 99")
        self.assertEqual(same.say("text"), TEXT)

    def test_its_own_text_told_again(self):
        desk = desk_with(TEXT)
        desk.say("take 2")
        desk.say("leaf 4 -1")
        other = desk_with(desk.say("text"))
        self.assertEqual(other.say("text"), desk.say("text"))
        self.assertEqual(other.say("leaf 0 3"), "place 6")

    def test_long(self):
        for parents in (plainly.row_tree(200), plainly.backward_row(200), plainly.star(230, 77)):
            hues = list(range(len(parents)))
            text = tree_text(parents, hues)
            desk = Desk()
            self.assertEqual(desk.say("tree " + text), f"places {len(parents)}")
            self.assertEqual(desk.say("text"), text)
            self.assertEqual(desk.say(f"below {parents.index(None)}"), f"{len(parents)} {len(parents)}")
            self.assertEqual(desk.say("leaf 199 -1"), f"place {len(parents)}")
            self.assertEqual(desk.say("lowest -1"), str(len(parents)))


class DrawnOrders(unittest.TestCase):
    def drawn_row(self, chance, kept):
        """A row, most often one that is not refused."""
        word = chance.choices(["leaf", "take", "hue", "below", "most", "hues", "lowest", "text", "tree", "wrong"],
                              [8, 5, 3, 3, 3, 3, 6, 2, 1, 1])[0]
        hue = chance.choice(SOME_HUES)
        if word == "wrong":
            return chance.choice([*RIGHT, "tree ", "tree -:5 -:6", "tree", "take 00", "leaf 1", "lowest", "text "])
        if word == "tree":
            many = chance.randrange(1, 9)
            hues = [chance.choice(SOME_HUES) for _ in range(many)]
            return "tree " + tree_text(plainly.mixed_tree(many, chance.random()), hues)
        if word == "lowest":
            return " ".join(["lowest", *[str(chance.choice(SOME_HUES)) for _ in range(chance.randrange(1, 4))]])
        if word == "text":
            return word
        place = chance.randrange(10) if kept is None else kept.any_place(chance, word == "take")
        return f"{word} {place} {hue}" if word in ("leaf", "hue") else f"{word} {place}"

    def test_held_against_a_tree_kept_plainly(self):
        refused, answered = set(), set()
        for seed in range(40):
            chance = random.Random(seed)
            desk, kept = Desk(), KeptDesk()
            for _ in range(120):
                row = self.drawn_row(chance, kept.kept)
                right = kept.say(row)
                self.assertEqual(told_by(desk, row), right, row)
                if isinstance(right, str):
                    answered.add(row.partition(" ")[0])
                else:
                    refused.add(right)
                if kept.kept is not None:
                    self.assertEqual(desk.say("text"), kept.kept.text())
        self.assertEqual(len(answered), 9)
        self.assertEqual(refused, {NoForm, NoText, NoTree, NoneYet, NoPlace, NoLeaf})
