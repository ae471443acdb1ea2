"""Unlike hues in a stretch of a row, and below a place, counted by last places."""

from huesbelow.errors import NoPart
from huesbelow.trees import need_hues, span, spans, walk


def last_places(row):
    """For each number in the row that of the last one ahead of it with the same hue, or None."""
    latest = {}
    lasts = []
    for number, hue in enumerate(row):
        lasts.append(latest.get(hue))
        latest[hue] = number
    return lasts


def count_firsts(lasts, first, beyond):
    """How many numbers of the stretch have no last place within it."""
    # Each hue of the stretch is counted once: where it stands there for the first time.
    firsts = [last for last in lasts[first:beyond] if last is None or last < first]
    return len(firsts)


def unlike_in(row, stretch):
    """How many unlike hues stand in the stretch (first, beyond) of a row."""
    first, beyond = stretch
    if not 0 <= first < beyond <= len(row):
        raise NoPart("this is no stretch of the row")
    return count_firsts(last_places(row), first, beyond)


def walk_row(parents, hues):
    """The hues in the order of the walk, refused with NoTree, then with NoHues."""
    need_hues(parents, hues)
    return [hues[place] for place in walk(parents)]


def unlike_below(parents, hues, place):
    """How many unlike hues stand below a place."""
    row = walk_row(parents, hues)
    return unlike_in(row, span(parents, place))


def unlike_all(parents, hues):
    """How many unlike hues stand below each place, by place."""
    lasts = last_places(walk_row(parents, hues))
    return [count_firsts(lasts, first, beyond) for first, beyond in spans(parents)]


def hues_below(parents, hues, place):
    """The unlike hues below a place, rising."""
    row = walk_row(parents, hues)
    first, beyond = span(parents, place)
    return sorted(set(row[first:beyond]))
