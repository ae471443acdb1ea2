"""What the document says, worked out in other ways than the program does, and trees to try it on."""

import itertools
import random

BIG = 10 ** 29 + 7


def is_tree(parents):
    many = len(parents)
    if parents.count(None) != 1:
        return False
    if any(parent is not None and not 0 <= parent < many for parent in parents):
        return False
    return all(comes_home(parents, place) for place in range(many))


def comes_home(parents, place):
    for _ in parents:
        if parents[place] is None:
            return True
        place = parents[place]
    return False


def from_root(parents, place):
    steps = []
    while place is not None:
        steps.insert(0, place)
        place = parents[place]
    return steps


def walk(parents):
    """The ways from the root, in the order of words in a dictionary, are the walk."""
    return sorted(range(len(parents)), key=lambda place: from_root(parents, place))


def below(parents, place):
    return [other for other in range(len(parents)) if place in from_root(parents, other)]


def span(parents, place):
    numbers = [walk(parents).index(other) for other in below(parents, place)]
    return (min(numbers), max(numbers) + 1)


def way(parents, one, other):
    """Step by step outward from the one place, until the other one is met."""
    found = {one: [one]}
    edge = [one]
    while other not in found:
        reached = []
        for place in edge:
            near = [at for at, parent in enumerate(parents) if parent == place]
            if parents[place] is not None:
                near.append(parents[place])
            for at in near:
                if at not in found:
                    found[at] = found[place] + [at]
                    reached.append(at)
        edge = reached
    return found[other]


def stands_in(parents, part, place):
    """Whether one place stands in a part, looked at by itself."""
    word, one, *more = part
    if word == "below":
        return one in from_root(parents, place)
    if word == "to":
        above = from_root(parents, place)
        return one in above and len(above) - 1 - above.index(one) <= more[0]
    if word == "way":
        return place in way(parents, one, more[0])
    if word == "stretch":
        return one <= walk(parents).index(place) < more[0]
    first, other = stands_in(parents, one, place), stands_in(parents, more[0], place)
    return {"both": first and other, "either": first or other, "but": first and not other}[word]


def places_of(parents, part):
    return [place for place in range(len(parents)) if stands_in(parents, part, place)]


def part_hues(parents, hues, part):
    """The hues of a part, rising, one for each of its places."""
    return sorted(hues[place] for place in places_of(parents, part))


def plain_parts(parents):
    """Every part of the tree that has no parts within it, with some depths."""
    many = len(parents)
    every = range(many)
    parts = [("below", place) for place in every]
    parts += [("to", place, depth) for place in every for depth in [0, 1, 2, many, BIG]]
    parts += [("way", one, other) for one in every for other in every]
    parts += [("stretch", first, beyond) for first in every for beyond in range(first + 1, many + 1)]
    return parts


def empty_part(place):
    return ("but", ("below", place), ("below", place))


def mixed_parts(parents, many, seed):
    """Parts within parts, some deep; the same for the same seed."""
    chance = random.Random(seed)
    pool = plain_parts(parents) + [empty_part(0)]
    return [mixed_part(chance, pool, chance.randrange(4)) for _ in range(many)]


def mixed_part(chance, pool, deep):
    if deep == 0:
        return chance.choice(pool)
    first = mixed_part(chance, pool, deep - 1)
    other = mixed_part(chance, pool, chance.randrange(deep))
    parts = (first, other) if chance.randrange(2) else (other, first)
    return (chance.choice(["both", "either", "but"]), *parts)


def hues_below(parents, hues, place):
    return sorted({hues[other] for other in below(parents, place)})


def row_tree(many):
    return [None] + list(range(many - 1))


def backward_row(many):
    return list(range(1, many)) + [None]


def star(many, centre=0):
    return [None if place == centre else centre for place in range(many)]


def small_trees(most):
    for many in range(1, most + 1):
        for parents in itertools.product([None, *range(many)], repeat=many):
            if is_tree(list(parents)):
                yield list(parents)


def mixed_tree(many, seed):
    """A tree whose places are numbered without any order; the same for the same seed."""
    chance = random.Random(seed)
    names = list(range(many))
    chance.shuffle(names)
    parents = [None] * many
    for at in range(1, many):
        parents[names[at]] = names[chance.randrange(at)]
    return parents


def mixed_hues(many, seed):
    chance = random.Random(seed)
    pool = [0, 1, 2, -1, -5, BIG, -BIG, BIG + 1]
    return [chance.choice(pool) for _ in range(many)]


def large_trees():
    trees = [row_tree(9), backward_row(9), star(9), star(9, 4), star(9, 8)]
    return trees + [mixed_tree(many, many) for many in (6, 7, 11, 17, 30)]
