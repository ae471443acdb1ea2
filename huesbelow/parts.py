"""Parts of a tree, told as tuples: which places they have, and the unlike hues that stand there."""

from huesbelow.errors import NoPart
from huesbelow.trees import is_place, need_hues, steps_beneath, walk, way_between


def need_part_place(parents, number):
    """Refuses with NoPart what is no place of the tree."""
    if not is_place(parents, number):
        raise NoPart("a part tells of a place that is none")


def below_places(parents, order, numbers):
    """The places of ("below", place)."""
    place = numbers[0]
    need_part_place(parents, place)
    return [each for each, steps in enumerate(steps_beneath(parents, order, place)) if steps is not None]


def to_places(parents, order, numbers):
    """The places of ("to", place, depth)."""
    place, most = numbers
    need_part_place(parents, place)
    if most < 0:
        raise NoPart("a part tells of a depth below 0")
    beneath = steps_beneath(parents, order, place)
    return [each for each, steps in enumerate(beneath) if steps is not None and steps <= most]


def way_places(parents, order, numbers):
    """The places of ("way", one, other)."""
    one, other = numbers
    need_part_place(parents, one)
    need_part_place(parents, other)
    return sorted(way_between(parents, one, other))


def stretch_places(parents, order, numbers):
    """The places of ("stretch", first, beyond)."""
    first, beyond = numbers
    if not 0 <= first < beyond <= len(order):
        raise NoPart("a part tells of a stretch of the walk that is none")
    return sorted(order[first:beyond])


LENGTHS = {"below": 2, "to": 3, "way": 3, "stretch": 3, "both": 3, "either": 3, "but": 3}

PLAIN = {"below": below_places, "to": to_places, "way": way_places, "stretch": stretch_places}


def has_form(part):
    """Whether it is a tuple of a word and of as many things behind it as the word has."""
    if not isinstance(part, tuple) or len(part) == 0:
        return False
    word = part[0]
    # Only a text is looked up: a list or a dict in its stead cannot be.
    return isinstance(word, str) and LENGTHS.get(word) == len(part)


def is_whole(value):
    """Whether it is a whole number, which True and False are not."""
    return isinstance(value, int) and not isinstance(value, bool)


def parts_within(part):
    """The part and all within it, each ahead of those within it, of which the other one goes first."""
    found = []
    waiting = [part]
    # A list of what waits, not recursion, so that no depth of parts is too great.
    while waiting:
        each = waiting.pop()
        if not has_form(each):
            raise NoPart("a part has another form or word")
        found.append(each)
        if each[0] not in PLAIN:
            waiting.extend(each[1:])
    return found


def plain_places(parents, order, part):
    """The places, rising, of a part that has no parts within it."""
    numbers = part[1:]
    if not all([is_whole(number) for number in numbers]):
        raise NoPart("a part has something else where a whole number is due")
    look = PLAIN[part[0]]
    return look(parents, order, numbers)


def joined_places(word, one, other):
    """The places, rising, that are in both, in either, or in the one but not in the other."""
    if word == "both":
        return sorted(set(one) & set(other))
    if word == "either":
        return sorted(set(one) | set(other))
    return sorted(set(one) - set(other))


def places_of(parents, part):
    """The places of a part, rising."""
    order = walk(parents)
    within = parts_within(part)
    held = []
    # Backwards both parts within a part come ahead of it, the other one last.
    for each in reversed(within):
        if each[0] in PLAIN:
            held.append(plain_places(parents, order, each))
        else:
            other = held.pop()
            one = held.pop()
            held.append(joined_places(each[0], one, other))
    return held[0]


def hued_places(parents, hues, part):
    """The places of a part, rising, refused with NoTree, then with NoHues, then with NoPart."""
    need_hues(parents, hues)
    return places_of(parents, part)


def part_row(parents, hues, part):
    """The hues of the places of a part, place by place."""
    return [hues[place] for place in hued_places(parents, hues, part)]


def unlike_of(parents, hues, part):
    """How many unlike hues stand in a part."""
    return len(set(part_row(parents, hues, part)))


def hues_of(parents, hues, part):
    """The unlike hues that stand in a part, rising."""
    return sorted(set(part_row(parents, hues, part)))
