"""The names and arguments that the document's interface lists, as far as they are built."""

import importlib
import inspect
import unittest

LISTED = {
    "trees": ["walk(parents)", "span(parents, place)", "depth(parents, place)", "way(parents, one, other)",
              "children(parents, place)"],
    "lasts": ["last_places(row)", "unlike_in(row, stretch)", "unlike_below(parents, hues, place)",
              "unlike_all(parents, hues)", "hues_below(parents, hues, place)"],
    "parts": ["places_of(parents, part)", "unlike_of(parents, hues, part)", "hues_of(parents, hues, part)"],
    "often": ["how_often(parents, hues, part)", "most_frequent(parents, hues, part)", "most_all(parents, hues)",
              "so_often(parents, hues, part, many)", "so_manieth(parents, hues, part, number)"],
    "papers": ["paper_shows(parents, hues, part, paper)", "paper_of(parents, hues, part)",
               "alike_in(parents, hues, part, other)"],
    "lowest": ["lowest_holding(parents, hues, wanted)", "places_with(parents, hues, many)",
               "fewest_with(parents, hues, many)"],
}


class Interface(unittest.TestCase):
    def test_names_and_arguments(self):
        for name, listed in LISTED.items():
            module = importlib.import_module("huesbelow." + name)
            for each in listed:
                told = getattr(module, each.partition("(")[0])
                self.assertEqual(told.__name__ + str(inspect.signature(told)), each)
                self.assertEqual(told.__module__, module.__name__)
