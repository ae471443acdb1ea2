"""Trees that grow: leaves are put and taken away, hues change, and no number is used twice."""

from huesbelow.errors import NoLeaf, NoPlace
from huesbelow.often import most_in
from huesbelow.parts import part_row
from huesbelow.trees import numbered_anew


class Grown:
    """A tree that begins with its root, place 0, and changes by leaves and hues."""

    def __init__(self, hue):
        self.above = {0: None}
        self.shown = {0: hue}
        self.coming = 1

    def need_here(self, place):
        """Refuses with NoPlace what is no place now."""
        if place not in self.above:
            raise NoPlace("this is no place of the tree now")

    def leaf(self, place, hue):
        """Puts a leaf with a hue to a place, and tells the leaf's number."""
        self.need_here(place)
        number = self.coming
        self.above[number] = place
        self.shown[number] = hue
        # Counted on its own, not by the places, as numbers of taken leaves never come again.
        self.coming += 1
        return number

    def take(self, place):
        """Takes a leaf away, which the root never is."""
        self.need_here(place)
        if self.above[place] is None or place in list(self.above.values()):
            raise NoLeaf("something is below this place, or it is the root")
        del self.above[place]
        del self.shown[place]

    def change(self, place, hue):
        """Gives a place another hue."""
        self.need_here(place)
        self.shown[place] = hue

    def places(self):
        """All places, rising."""
        return sorted(self.above)

    def parent(self, place):
        """The parent of a place, None for the root."""
        self.need_here(place)
        return self.above[place]

    def hue(self, place):
        """The hue of a place."""
        self.need_here(place)
        return self.shown[place]

    def row_below(self, place):
        """The hues of the places below a place, one for each of these places."""
        self.need_here(place)
        parents, hues = self.plain()
        # The plain tree numbers the places anew.
        number = self.places().index(place)
        return part_row(parents, hues, ("below", number))

    def unlike(self, place):
        """How many unlike hues stand below a place."""
        return len(set(self.row_below(place)))

    def many(self, place):
        """How many places are below a place, itself among them."""
        return len(self.row_below(place))

    def most(self, place):
        """The tuple (many, hue) of the most frequent hue below a place, the least such."""
        return most_in(self.row_below(place))

    def hues(self, place):
        """The unlike hues below a place, rising."""
        return sorted(set(self.row_below(place)))

    def plain(self):
        """The tuple (parents, hues) of the plain tree of all places, numbered anew in rising order."""
        places = self.places()
        return (numbered_anew(self.above, places), [self.shown[place] for place in places])


def grown_from(parents, hues):
    """A grown tree of the places of a plain one, their numbers as they stand there."""
    tree = Grown(hues[0])
    tree.above = dict(enumerate(parents))
    tree.shown = dict(enumerate(hues))
    tree.coming = len(parents)
    return tree
