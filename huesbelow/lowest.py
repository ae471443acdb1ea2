"""The lowest place below which told hues all stand, and places by how many unlike hues stand below them."""

from huesbelow.errors import NoNumber
from huesbelow.lasts import unlike_all, walk_row
from huesbelow.trees import spans, steps_beneath, walk


def depths(parents):
    """How many steps each place stands from the root, by place."""
    order = walk(parents)
    return steps_beneath(parents, order, order[0])


def holding_places(parents, hues, wanted):
    """The places below which all wanted hues stand, rising."""
    row = walk_row(parents, hues)
    missing = [len(set(wanted) - set(row[first:beyond])) for first, beyond in spans(parents)]
    return [place for place, many in enumerate(missing) if many == 0]


def lowest_holding(parents, hues, wanted):
    """The place of the greatest depth below which all wanted hues stand, the least such, or None."""
    holding = holding_places(parents, hues, wanted)
    steps = depths(parents)
    # Depths are taken below 0, so that the least tuple has the greatest one.
    ranked = sorted([(-steps[place], place) for place in holding])
    return ranked[0][1] if ranked else None


def unlike_by_number(parents, hues, many):
    """How many unlike hues stand below each place, refused with NoNumber where many is below 0."""
    unlike = unlike_all(parents, hues)
    if many < 0:
        raise NoNumber("a number from 0 on is due")
    return unlike


def places_with(parents, hues, many):
    """All places below which stand just so many unlike hues, rising."""
    unlike = unlike_by_number(parents, hues, many)
    return [place for place, found in enumerate(unlike) if found == many]


def fewest_with(parents, hues, many):
    """Of the places with so many unlike hues below at least, (places below it, place) of the fewest, or None."""
    unlike = unlike_by_number(parents, hues, many)
    sizes = [beyond - first for first, beyond in spans(parents)]
    enough = [(sizes[place], place) for place, found in enumerate(unlike) if found >= many]
    return min(enough, default=None)
