"""Trees as lists of parents: which are trees, their walk, and ways in them."""

from huesbelow.errors import NoHues, NoPlace, NoTree


def is_place(parents, number):
    """Whether this whole number is one of the places."""
    return 0 <= number < len(parents)


def only_root(parents):
    """The root, refused with NoTree where there is not just one."""
    roots = [place for place, parent in enumerate(parents) if parent is None]
    if len(roots) != 1:
        raise NoTree("a tree has just one root")
    return roots[0]


def child_lists(parents):
    """The children of each place, rising, refused with NoTree where a parent is no place."""
    lists = [[] for parent in parents]
    for place, parent in enumerate(parents):
        if parent is None:
            continue
        if not is_place(parents, parent):
            raise NoTree("a parent is no place")
        lists[parent].append(place)
    return lists


def walk(parents):
    """All places, the root first, behind each place those below it, child by child."""
    root = only_root(parents)
    lists = child_lists(parents)
    order = []
    waiting = [root]
    # A list of what waits, not recursion: a tree may be one long row.
    while waiting:
        place = waiting.pop()
        order.append(place)
        waiting.extend(lists[place][::-1])
    # Just those places that come to the root are met on the way down from it.
    if len(order) != len(parents):
        raise NoTree("a place never comes to the root")
    return order


def need_tree(parents):
    """Refuses with NoTree what is no tree."""
    # The walk itself finds all that keeps a list of parents from being a tree.
    walk(parents)


def need_hues(parents, hues):
    """Refuses with NoTree what is no tree, then with NoHues what does not fit it."""
    need_tree(parents)
    if len(hues) != len(parents):
        raise NoHues("there is not one hue for each place")


def need_place(parents, place):
    """Refuses with NoTree what is no tree, then with NoPlace what is no place of it."""
    need_tree(parents)
    if not is_place(parents, place):
        raise NoPlace("this is no place of the tree")


def spans(parents):
    """The span of each place, by place."""
    order = walk(parents)
    sizes = [1 for place in order]
    # Backwards, so that a place is counted whole before it counts for its parent.
    for place in reversed(order):
        parent = parents[place]
        if parent is not None:
            sizes[parent] += sizes[place]
    found = [(0, 0) for place in order]
    for first, place in enumerate(order):
        found[place] = (first, first + sizes[place])
    return found


def span(parents, place):
    """The tuple (first, beyond) of the numbers in the walk that stand below a place."""
    need_place(parents, place)
    return spans(parents)[place]


def steps_up(parents, place):
    """The places from this one to the root, both among them; the tree is known to be one."""
    steps = [place]
    parent = parents[place]
    while parent is not None:
        steps.append(parent)
        parent = parents[parent]
    return steps


def depth(parents, place):
    """How many steps a place stands from the root."""
    need_place(parents, place)
    return len(steps_up(parents, place)) - 1


def way_between(parents, one, other):
    """The places from one to the other; the tree is known to be one, and both to be places of it."""
    rising = steps_up(parents, one)
    falling = steps_up(parents, other)
    top = one
    # What both have above them is left out but for its lowest place, where the way turns.
    while rising and falling and rising[-1] == falling[-1]:
        top = rising.pop()
        falling.pop()
    return rising + [top] + falling[::-1]


def way(parents, one, other):
    """The places from one to the other by the fewest steps, both among them."""
    need_place(parents, one)
    need_place(parents, other)
    return way_between(parents, one, other)


def steps_beneath(parents, order, place):
    """For each place how many steps it stands beneath this one, or None where it is not below it."""
    steps = [None for each in order]
    steps[place] = 0
    # The order is that of the walk, so that a parent is settled ahead of its children.
    for each in order:
        parent = parents[each]
        if parent is not None and steps[parent] is not None:
            steps[each] = steps[parent] + 1
    return steps


def children(parents, place):
    """The children of a place, rising."""
    need_place(parents, place)
    return child_lists(parents)[place]


def numbered_anew(parents, places):
    """The parents of these places, numbered in their order; None where a parent is not among them."""
    # The parents may be a list or, where numbers are missing, a dict by place.
    numbers = {place: number for number, place in enumerate(places)}
    return [numbers.get(parents[place]) for place in places]
