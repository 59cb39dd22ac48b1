"""A cutting as an object."""

from underthree.chordsums import first_joins
from underthree.cornerprices import prices_of
from underthree.cutnumbers import number_of
from underthree.cuttingkinds import is_corners, is_cutting
from underthree.needs import need
from underthree.quiets import worst_price
from underthree.shapes import mirrored_cutting, turned_cutting


class Cutting:
    """The cutting of so many corners with these chords."""

    def __init__(self, corners, *chords):
        need(is_corners(corners), "corners")
        need(is_cutting((corners, chords)), "chords")
        self._cutting = (corners, chords)

    def told(self):
        """The cutting, as a pair."""
        return self._cutting

    def prices(self):
        """The prices of all corners."""
        return prices_of(self._cutting)

    def number(self):
        """The number of the cutting."""
        return number_of(self._cutting)

    def turn(self, by):
        """A Cutting, turned by this number."""
        corners, chords = turned_cutting(self._cutting, by)
        return Cutting(corners, *chords)

    def mirror(self):
        """A Cutting, mirrored."""
        corners, chords = mirrored_cutting(self._cutting)
        return Cutting(corners, *chords)

    def worst(self):
        """The greatest price."""
        return worst_price(self._cutting)

    def first(self, many):
        """What the first many answers cost."""
        return first_joins(self._cutting, many)

    def __eq__(self, other):
        return isinstance(other, Cutting) and self._cutting == other._cutting
