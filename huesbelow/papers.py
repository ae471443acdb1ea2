"""Papers that show which unlike hues stand in a part of a tree, and hues that two parts have alike."""

from huesbelow.parts import hued_places


def first_places(hues, places):
    """For each hue of these places, which rise, the least place that has it."""
    firsts = {}
    for place in places:
        firsts.setdefault(hues[place], place)
    return firsts


def is_rising(numbers):
    """Whether each number is greater than the one ahead of it."""
    return all([low < high for low, high in zip(numbers, numbers[1:])])


def paper_shows(parents, hues, part, paper):
    """Whether the paper is right for the part: its hues rise, each stands there where it says, and none is missing."""
    places = hued_places(parents, hues, part)
    shown = [hue for hue, place in paper]
    # Whether a place stands in the part is asked first, as any number may be told as a place.
    stand = all([place in places and hues[place] == hue for hue, place in paper])
    whole = all([hues[place] in shown for place in places])
    return is_rising(shown) and stand and whole


def paper_of(parents, hues, part):
    """The right paper for a part: tuples (hue, place), hues rising, each place the least such."""
    firsts = first_places(hues, hued_places(parents, hues, part))
    return sorted(firsts.items())


def alike_in(parents, hues, part, other):
    """The least places (place, other) of two parts that have a hue alike, or None where there are none."""
    places = hued_places(parents, hues, part)
    firsts = first_places(hues, hued_places(parents, hues, other))
    for place in places:
        if hues[place] in firsts:
            return (place, firsts[hues[place]])
    return None
