"""A desk that keeps one grown tree, is told rows, and answers each by a text."""

from huesbelow.errors import NoForm, NoneYet
from huesbelow.grown import grown_from
from huesbelow.lowest import lowest_holding
from huesbelow.texts import is_hue, is_number, read_tree, tree_text

PLACE_FIGURES = 3

MOST_WANTED = 20

# P stands for a place, H for a hue.
FORMS = {"leaf": "PH", "take": "P", "hue": "PH", "below": "P", "most": "P", "hues": "P", "text": ""}


def is_written(kind, word):
    """Whether the word is written as a place, or as a hue."""
    return is_number(word, PLACE_FIGURES) if kind == "P" else is_hue(word)


def form_for(word, many):
    """The letters of what is due behind a word where so many words stand behind it, or None."""
    if word == "lowest" and 1 <= many <= MOST_WANTED:
        return "H" * many
    return FORMS.get(word)


def is_row(words):
    """Whether the words of a row have a form that the desk knows."""
    behind = words[1:]
    form = form_for(words[0], len(behind))
    if form is None or len(form) != len(behind):
        return False
    return all([is_written(kind, word) for kind, word in zip(form, behind)])


def say_places(tree):
    """The answer of how many places the tree has."""
    return f"places {len(tree.places())}"


def put_leaf(tree, numbers):
    """Answers `leaf P H`."""
    place, hue = numbers
    return f"place {tree.leaf(place, hue)}"


def take_leaf(tree, numbers):
    """Answers `take P`."""
    tree.take(numbers[0])
    return say_places(tree)


def change_hue(tree, numbers):
    """Answers `hue P H`."""
    place, hue = numbers
    tree.change(place, hue)
    return say_places(tree)


def say_below(tree, numbers):
    """Answers `below P`."""
    place = numbers[0]
    return f"{tree.unlike(place)} {tree.many(place)}"


def say_most(tree, numbers):
    """Answers `most P`."""
    often, hue = tree.most(numbers[0])
    return f"{often} {hue}"


def say_hues(tree, numbers):
    """Answers `hues P`."""
    return " ".join([str(hue) for hue in tree.hues(numbers[0])])


def say_lowest(tree, numbers):
    """Answers `lowest H ..`."""
    parents, hues = tree.plain()
    number = lowest_holding(parents, hues, numbers)
    if number is None:
        return "none"
    # The plain tree numbers the places anew, in the order in which they rise here.
    return str(tree.places()[number])


def say_text(tree, numbers):
    """Answers `text`."""
    parents, hues = tree.plain()
    return tree_text(parents, hues)


ANSWERS = {"leaf": put_leaf, "take": take_leaf, "hue": change_hue, "below": say_below, "most": say_most,
           "hues": say_hues, "lowest": say_lowest, "text": say_text}


class Desk:
    """Keeps the tree that it was told last, None until then."""

    def __init__(self):
        self.tree = None

    def plant(self, text):
        """Answers `tree TEXT`."""
        parents, hues = read_tree(text)
        self.tree = grown_from(parents, hues)
        return say_places(self.tree)

    def say(self, row):
        """The answer to a row."""
        if "\n" in row:
            raise NoForm("a row has no line feed")
        if row.startswith("tree "):
            return self.plant(row.removeprefix("tree "))
        words = row.split(" ")
        if not is_row(words):
            raise NoForm("a row has no form that is known here")
        if self.tree is None:
            raise NoneYet("there is no tree yet")
        answer = ANSWERS[words[0]]
        return answer(self.tree, [int(word) for word in words[1:]])
