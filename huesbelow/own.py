"""The own parts of hues, and the places below which hues stand that stand nowhere else."""

from huesbelow.errors import NoPart
from huesbelow.lasts import walk_row
from huesbelow.lowest import depths
from huesbelow.trees import need_hues, need_place, numbered_anew, span, spans, steps_up, walk, way_between


def own_places(parents, hues, hue):
    """The own part of a hue; the tree and the hues are known to be such."""
    having = [place for place, each in enumerate(hues) if each == hue]
    # What hangs together and holds two places holds the way between them.
    return sorted({each for place in having for each in way_between(parents, having[0], place)})


def own_part(parents, hues, hue):
    """The least set of places that hangs together and holds all places of a hue, rising."""
    need_hues(parents, hues)
    return own_places(parents, hues, hue)


def own_height(parents, hues, hue):
    """The tuple (place, many) of an own part's highest place and the steps down to its farthest one, or None."""
    part = own_part(parents, hues, hue)
    if not part:
        return None
    steps = depths(parents)
    ranked = sorted([(steps[place], place) for place in part])
    high, top = ranked[0]
    low, farthest = ranked[-1]
    return (top, low - high)


def own_counts(parents, hues):
    """For each place in how many hues' own parts it stands."""
    need_hues(parents, hues)
    counts = [0 for place in parents]
    for hue in sorted(set(hues)):
        for place in own_places(parents, hues, hue):
            counts[place] += 1
    return counts


def most_own(parents, hues):
    """The tuple (many, place) of the place that stands in most own parts, the least such."""
    counts = own_counts(parents, hues)
    many = max(counts)
    return (many, counts.index(many))


def closed_places(parents, hues):
    """The places below which hues stand that stand nowhere else, rising."""
    row = walk_row(parents, hues)
    shared = [len(set(row[first:beyond]) & set(row[:first] + row[beyond:])) for first, beyond in spans(parents)]
    return [place for place, many in enumerate(shared) if many == 0]


def first_closed(parents, hues, place):
    """The first closed place on the way from a place to the root, itself among them."""
    closed = closed_places(parents, hues)
    need_place(parents, place)
    # The root is closed, so that there is always one.
    return [each for each in steps_up(parents, place) if each in closed][0]


def cut_off(parents, hues, place):
    """The tuple (parents, hues) of the places below a closed place, numbered anew in rising order."""
    if first_closed(parents, hues, place) != place:
        raise NoPart("this place is not closed")
    first, beyond = span(parents, place)
    places = sorted(walk(parents)[first:beyond])
    return (numbered_anew(parents, places), [hues[each] for each in places])
