"""The refusals of the program, each a class of its own under HueError."""


class HueError(ValueError):
    """Any refusal."""


class NoTree(HueError):
    """A list of parents that is no tree."""


class NoHues(HueError):
    """A list of hues that does not fit its tree."""


class NoPlace(HueError):
    """A number that is no place of the tree."""


class NoPart(HueError):
    """What is no part of the tree, or no stretch of the row."""


class NoNumber(HueError):
    """A number that is too small for what is asked."""


class NoLeaf(HueError):
    """A place that cannot be taken away, as it is no leaf."""


class NoText(HueError):
    """A text that is not that of a tree and its hues."""


class NoForm(HueError):
    """A row that has no form that the desk knows."""


class NoneYet(HueError):
    """A row that needs a tree while the desk has none."""
