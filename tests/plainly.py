"""What the document says, worked out in other ways than the program does, and trees to try it on."""

import itertools
import random

BIG = 10 ** 29 + 7


def is_tree(parents):
    many = len(parents)
    if parents.count(None) != 1:
        return False
    if any(parent is not None and not 0 <= parent < many for parent in parents):
        return False
    return all(comes_home(parents, place) for place in range(many))


def comes_home(parents, place):
    for _ in parents:
        if parents[place] is None:
            return True
        place = parents[place]
    return False


def from_root(parents, place):
    steps = []
    while place is not None:
        steps.insert(0, place)
        place = parents[place]
    return steps


def walk(parents):
    """The ways from the root, in the order of words in a dictionary, are the walk."""
    return sorted(range(len(parents)), key=lambda place: from_root(parents, place))


def below(parents, place):
    return [other for other in range(len(parents)) if place in from_root(parents, other)]


def span(parents, place):
    numbers = [walk(parents).index(other) for other in below(parents, place)]
    return (min(numbers), max(numbers) + 1)


def way(parents, one, other):
    """Step by step outward from the one place, until the other one is met."""
    found = {one: [one]}
    edge = [one]
    while other not in found:
        reached = []
        for place in edge:
            near = [at for at, parent in enumerate(parents) if parent == place]
            if parents[place] is not None:
                near.append(parents[place])
            for at in near:
                if at not in found:
                    found[at] = found[place] + [at]
                    reached.append(at)
        edge = reached
    return found[other]


def hues_below(parents, hues, place):
    return sorted({hues[other] for other in below(parents, place)})


def row_tree(many):
    return [None] + list(range(many - 1))


def backward_row(many):
    return list(range(1, many)) + [None]


def star(many, centre=0):
    return [None if place == centre else centre for place in range(many)]


def small_trees(most):
    for many in range(1, most + 1):
        for parents in itertools.product([None, *range(many)], repeat=many):
            if is_tree(list(parents)):
                yield list(parents)


def mixed_tree(many, seed):
    """A tree whose places are numbered without any order; the same for the same seed."""
    chance = random.Random(seed)
    names = list(range(many))
    chance.shuffle(names)
    parents = [None] * many
    for at in range(1, many):
        parents[names[at]] = names[chance.randrange(at)]
    return parents


def mixed_hues(many, seed):
    chance = random.Random(seed)
    pool = [0, 1, 2, -1, -5, BIG, -BIG, BIG + 1]
    return [chance.choice(pool) for _ in range(many)]


def large_trees():
    trees = [row_tree(9), backward_row(9), star(9), star(9, 4), star(9, 8)]
    return trees + [mixed_tree(many, many) for many in (6, 7, 11, 17, 30)]
