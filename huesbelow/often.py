"""How often hues stand in a part of a tree, and which are most frequent there."""

from huesbelow.errors import NoNumber
from huesbelow.lasts import walk_row
from huesbelow.parts import part_row
from huesbelow.trees import spans


def count_hues(row):
    """The tuples (hue, many) of a row of hues, hues rising."""
    counts = {}
    for hue in row:
        counts[hue] = counts.get(hue, 0) + 1
    return sorted(counts.items())


def most_in(row):
    """The tuple (many, hue) of the most frequent hue of a row, the least such; None where it is empty."""
    best = None
    # The hues rise, so that of those as frequent as each other the least one stays.
    for hue, many in count_hues(row):
        if best is None or many > best[0]:
            best = (many, hue)
    return best


def need_from_one(number):
    """Refuses with NoNumber what is below 1."""
    if number < 1:
        raise NoNumber("a number from 1 on is due")


def how_often(parents, hues, part):
    """How often each hue stands in a part: tuples (hue, many), hues rising."""
    return count_hues(part_row(parents, hues, part))


def most_frequent(parents, hues, part):
    """The tuple (many, hue) of the most frequent hue of a part, the least such; None where it has no places."""
    return most_in(part_row(parents, hues, part))


def most_all(parents, hues):
    """The tuple (many, hue) of the most frequent hue below each place, by place."""
    row = walk_row(parents, hues)
    return [most_in(row[first:beyond]) for first, beyond in spans(parents)]


def so_often(parents, hues, part, many):
    """How many hues stand at least so often in a part."""
    counts = how_often(parents, hues, part)
    need_from_one(many)
    return len([hue for hue, found in counts if found >= many])


def so_manieth(parents, hues, part, number):
    """The so-manieth hue of a part, the most frequent first, of those as frequent the least; None beyond."""
    counts = how_often(parents, hues, part)
    need_from_one(number)
    if number > len(counts):
        return None
    ranked = sorted([(-found, hue) for hue, found in counts])
    return ranked[number - 1][1]
