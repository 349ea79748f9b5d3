"""Looks: what somebody saw of a book at a moment."""

from pastlay.errors import BadLook
from pastlay.seeing import is_moment, picture
from pastlay.shapes import is_stretch

MOST_LOOKS = 20


def is_look(book, thing):
    """Whether thing is a look at the book: a tuple of a moment and the two places of a stretch."""
    if not isinstance(thing, tuple) or len(thing) != 3:
        return False
    moment, low, high = thing
    return is_moment(book, moment) and is_stretch((low, high))


def are_looks(book, thing):
    """Whether thing is looks at the book: a tuple of at most twenty."""
    if not isinstance(thing, tuple) or len(thing) > MOST_LOOKS:
        return False
    return all([is_look(book, look) for look in thing])


def shown(book, look):
    """What a look showed: a tuple of (low, high, giver) from its low to its high; BadLook where it is none."""
    if not is_look(book, look):
        raise BadLook("a look is a tuple of a moment of the book and two places, low and high")
    moment, low, high = look
    entries = picture(book, moment=moment)
    return tuple([(max(begin, low), min(end, high), shows) for begin, end, shows in entries
                  if begin <= high and low <= end])
