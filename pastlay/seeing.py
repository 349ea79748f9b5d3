"""What is seen of a book at a moment."""

from pastlay.errors import NoMoment, NoPlace
from pastlay.shapes import LAST, is_from_to, is_place


def is_moment(book, thing):
    """Whether thing is a moment of the book: a whole number of strokes, from none to all."""
    return is_from_to(thing, 0, len(book))


def done(book, moment):
    """The strokes done at a moment, all where it is None; NoMoment where it is none of the book's."""
    if moment is None:
        return book.strokes()
    if not is_moment(book, moment):
        raise NoMoment("a moment is a whole number from 0 to the number of strokes")
    return book.strokes()[:moment]


def seen(strokes):
    """The entries (low, high, giver) from place 0 to LAST when these strokes are done, each as long as it can be."""
    entries = [(0, LAST, None)]
    for number, (low, high, _) in enumerate(strokes):
        # What is cut apart here has the new stroke between, so no two entries side by side are ever alike.
        ahead = [(begin, min(end, low - 1), shows) for begin, end, shows in entries if begin < low]
        behind = [(max(begin, high + 1), end, shows) for begin, end, shows in entries if high < end]
        entries = ahead + [(low, high, number)] + behind
    return entries


def stack(book, place, *, moment=None):
    """The numbers of the strokes done that lie over a place, the last one ahead."""
    if not is_place(place):
        raise NoPlace("a place is a whole number from 0 to a thousand millions")
    strokes = done(book, moment)
    return [number for number in reversed(range(len(strokes))) if strokes[number][0] <= place <= strokes[number][1]]


def giver(book, place, *, moment=None):
    """The number of the stroke that a place shows, None where it is bare."""
    over = stack(book, place, moment=moment)
    return over[0] if over else None


def picture(book, *, moment=None):
    """All places by givers: a tuple of (low, high, giver)."""
    return tuple(seen(done(book, moment)))


def colours(book, *, moment=None):
    """All places by colours: a tuple of (low, high, colour)."""
    strokes = done(book, moment)
    row = []
    for low, high, number in seen(strokes):
        colour = None if number is None else strokes[number][2]
        # Strokes of one colour side by side look like one.
        if row and row[-1][2] == colour:
            row[-1] = (row[-1][0], high, colour)
        else:
            row.append((low, high, colour))
    return tuple(row)


def hidden(book, *, moment=None):
    """The numbers of the strokes done that are seen nowhere, rising."""
    strokes = done(book, moment)
    givers = [number for low, high, number in seen(strokes)]
    return [number for number in range(len(strokes)) if number not in givers]
