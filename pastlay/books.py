"""Books: strokes in time."""

from pastlay.errors import BadStroke, NoSlot, NoStroke
from pastlay.shapes import is_from_to, is_stroke


def own_stroke(stroke):
    """A stroke like the one handed in; BadStroke where that is none."""
    if not is_stroke(stroke):
        raise BadStroke("a stroke is a tuple of two places, low and high, and a colour")
    low, high, colour = stroke
    return (low, high, colour)


class Book:
    """A row of strokes in time, numbered from 0."""

    def __init__(self, strokes=()):
        if not isinstance(strokes, (tuple, list)):
            raise BadStroke("a book is made of a tuple or a list of strokes")
        self._strokes = [own_stroke(stroke) for stroke in strokes]

    def put(self, slot, stroke):
        """Put a stroke in ahead of the one that has this number, behind all at their number."""
        if not is_from_to(slot, 0, len(self._strokes)):
            raise NoSlot("a slot is a whole number from 0 to the number of strokes")
        self._strokes.insert(slot, own_stroke(stroke))

    def take(self, number):
        """Take the stroke with this number out, and tell it."""
        if not is_from_to(number, 0, len(self._strokes) - 1):
            raise NoStroke("no stroke of the book has this number")
        return self._strokes.pop(number)

    def strokes(self):
        """The strokes in their order."""
        return tuple([(low, high, colour) for low, high, colour in self._strokes])

    def copy(self):
        """A book with the same strokes, which goes on by itself."""
        return Book(self._strokes)

    def __len__(self):
        return len(self._strokes)

    def __eq__(self, other):
        return isinstance(other, Book) and self._strokes == other._strokes

    def __repr__(self):
        return f"Book({self.strokes()!r})"

    def __str__(self):
        return " / ".join([f"{low} {high} {colour}" for low, high, colour in self._strokes])
