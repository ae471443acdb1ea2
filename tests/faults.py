"""What is no tree and what is no part, for the tests of all that takes a part."""

from tests.plainly import BIG, empty_part

NO_TREES = [[], [None, None], [1, 0], [0], [None, 1], [None, 2, 1], [None, -1], [None, 2], [None, BIG], [None, -BIG]]

NO_NUMBERS = [None, True, False, "0", "", "below", [], [0], {}, {0: 0}, (), (0,), ("below", 0), b"0"]

NO_PARTS_WITHIN = [None, True, False, 0, 1, "below", "", [], ["below", 0], {}, {"below": 0}, (), b"below"]


def no_places(many):
    return [-1, -many, -many - 1, many, many + 1, BIG, -BIG]


def no_forms():
    """Tuples with another word, or with too few or too many things behind it."""
    forms = [(), ("",), ("above", 0), ("Below", 0), ("below ", 0), ("above",), ("beneath", 0, 1), ("belo", 0), ("x", 0, 1)]
    forms += [(word, 0) for word in [None, True, 0, 1, [], ["below"], {}, {"below": 2}, ("below",), (), b"below"]]
    forms += [(word, 0, 1) for word in [None, True, 0, [], {}, ("way",), b"way"]]
    forms += [(0,), (None,), ([],), ({},), (("below", 0),), (("below", 0), ("below", 0)), (0, 1), (0, 1, 2)]
    forms += [("below",), ("below", 0, 0), ("below", 0, 0, 0), (0, "below"), ("below", "below", 0)]
    for word in ["to", "way", "stretch"]:
        forms += [(word,), (word, 0), (word, 0, 1, 1), (word, 0, 1, 1, 1), (0, word, 1), (word, (0, 1))]
    part = ("below", 0)
    for word in ["both", "either", "but"]:
        forms += [(word,), (word, part), (word, part, part, part), (part, word, part), (word, (part, part))]
        forms += [(word, 0), (word, 0, 0), (word, None, None)]
        forms += [(word, part, wrong) for wrong in NO_PARTS_WITHIN]
        forms += [(word, wrong, part) for wrong in NO_PARTS_WITHIN]
    return forms


def wrong_numbers(many):
    """Tuples of the right form, for a tree of so many places, whose numbers are wrong."""
    places = no_places(many) + NO_NUMBERS
    parts = [("below", place) for place in places]
    parts += [("to", place, 0) for place in places]
    parts += [("to", 0, depth) for depth in [-1, -2, -BIG, *NO_NUMBERS]]
    parts += [("way", place, 0) for place in places]
    parts += [("way", 0, place) for place in places]
    parts += [("way", place, place) for place in places]
    parts += [("stretch", number, many) for number in NO_NUMBERS]
    parts += [("stretch", 0, number) for number in NO_NUMBERS]
    stretches = [(0, 0), (many, many), (many, 0), (many - 1, many - 1), (many, many + 1), (0, many + 1), (many - 1, 0)]
    stretches += [(-1, 0), (-1, 1), (-1, many), (-many, -1), (0, -1), (-1, -1), (0, BIG), (-BIG, many), (-BIG, BIG)]
    stretches += [(BIG, BIG + 1), (BIG, 0), (many + 1, many + 2), (many + 2, many + 1)]
    return parts + [("stretch", first, beyond) for first, beyond in stretches]


def deep_within(part, deep):
    """The part so deep within others, on either side, beside parts with and without places."""
    for at in range(deep):
        beside = empty_part(0) if at % 3 == 0 else ("below", 0)
        word = ["both", "either", "but"][at % 3]
        part = (word, part, beside) if at % 2 else (word, beside, part)
    return part


def no_parts(many):
    """Tuples that are no part of a tree of so many places."""
    plain = no_forms() + wrong_numbers(many)
    within = [(word, part, empty_part(0)) for word in ["both", "either", "but"] for part in plain]
    within += [(word, empty_part(0), part) for word in ["both", "either", "but"] for part in plain]
    within += [deep_within(part, deep) for part in plain for deep in (1, 2, 3, 10)]
    return plain + within


def some_no_parts(many):
    """A few tuples that are no part, one of each sort."""
    few = [(), ("above", 0), ([], 0), ("below",), ("way", 0, 0, 0), ("below", many), ("below", -1), ("below", True)]
    few += [("to", 0, -1), ("to", 0, None), ("way", 0, BIG), ("stretch", 0, 0), ("stretch", 0, many + 1), ("both", (), ())]
    return few + [deep_within(part, 11) for part in few] + [("both", empty_part(0), part) for part in few]
