"""A tree and its hues written as a text, place by place, and such a text read back."""

from huesbelow.errors import NoText
from huesbelow.trees import need_hues, need_tree

ROOT = "-"

MOST_FIGURES = 30


def is_number(word, most):
    """Whether it is of figures, one to so many, without noughts ahead."""
    if not word.isascii() or not word.isdigit() or len(word) > most:
        return False
    return word == "0" or not word.startswith("0")


def is_hue(word):
    """Whether it is a hue as it is written, below 0 with a sign ahead."""
    # Nought has no sign, as each hue is written in one way only.
    return word != "-0" and is_number(word.removeprefix("-"), MOST_FIGURES)


def place_text(parent, hue):
    """What is written of one place."""
    above = ROOT if parent is None else parent
    return f"{above}:{hue}"


def tree_text(parents, hues):
    """The text of a tree and its hues."""
    need_hues(parents, hues)
    return " ".join([place_text(parent, hue) for parent, hue in zip(parents, hues)])


def read_place(word):
    """The tuple (parent, hue) of what is written of one place, refused with NoText where it is not so written."""
    above, colon, hue = word.partition(":")
    if above != ROOT and not is_number(above, MOST_FIGURES):
        raise NoText("a parent is not written as one")
    # Without a colon nothing is left for the hue, and a second colon stands in it.
    if not is_hue(hue):
        raise NoText("a hue is not written as one")
    return (None if above == ROOT else int(above), int(hue))


def read_tree(text):
    """The tuple (parents, hues) of a text, refused with NoText, then with NoTree."""
    read = [read_place(word) for word in text.split(" ")]
    parents = [parent for parent, hue in read]
    need_tree(parents)
    return (parents, [hue for parent, hue in read])
