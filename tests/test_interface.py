"""The names and arguments that the document's interface lists."""

import importlib
import inspect
import unittest

LISTED = {
    "trees": ["walk(parents)", "span(parents, place)", "depth(parents, place)", "way(parents, one, other)",
              "children(parents, place)"],
    "lasts": ["last_places(row)", "unlike_in(row, stretch)", "unlike_below(parents, hues, place)",
              "unlike_all(parents, hues)", "hues_below(parents, hues, place)"],
    "parts": ["places_of(parents, part)", "unlike_of(parents, hues, part)", "hues_of(parents, hues, part)"],
    "often": ["how_often(parents, hues, part)", "most_frequent(parents, hues, part)", "most_all(parents, hues)",
              "so_often(parents, hues, part, many)", "so_manieth(parents, hues, part, number)"],
    "papers": ["paper_shows(parents, hues, part, paper)", "paper_of(parents, hues, part)",
               "alike_in(parents, hues, part, other)"],
    "lowest": ["lowest_holding(parents, hues, wanted)", "places_with(parents, hues, many)",
               "fewest_with(parents, hues, many)"],
    "texts": ["tree_text(parents, hues)", "read_tree(text)"],
    "own": ["own_part(parents, hues, hue)", "own_height(parents, hues, hue)", "own_counts(parents, hues)",
            "most_own(parents, hues)", "closed_places(parents, hues)", "first_closed(parents, hues, place)",
            "cut_off(parents, hues, place)"],
}

CLASSES = {
    "grown": ("Grown(hue)", ["leaf(place, hue)", "take(place)", "change(place, hue)", "places()", "parent(place)",
                             "hue(place)", "unlike(place)", "many(place)", "most(place)", "hues(place)", "plain()"]),
    "desk": ("Desk()", ["say(row)"]),
}


class Interface(unittest.TestCase):
    def test_names_and_arguments(self):
        for name, listed in LISTED.items():
            module = importlib.import_module("huesbelow." + name)
            for each in listed:
                told = getattr(module, each.partition("(")[0])
                self.assertEqual(told.__name__ + str(inspect.signature(told)), each)
                self.assertEqual(told.__module__, module.__name__)

    def test_classes_and_methods(self):
        for name, (made, methods) in CLASSES.items():
            module = importlib.import_module("huesbelow." + name)
            kind = getattr(module, made.partition("(")[0])
            self.assertEqual(kind.__name__ + str(inspect.signature(kind)), made)
            self.assertEqual(kind.__module__, module.__name__)
            for each in methods:
                # Looked up in the class itself: inheriting it is not enough.
                told = vars(kind)[each.partition("(")[0]]
                due = each.replace("(", "(self, ").replace("(self, )", "(self)")
                self.assertEqual(told.__name__ + str(inspect.signature(told)), due)
