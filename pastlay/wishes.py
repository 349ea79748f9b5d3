"""Wishes, and the walls and gaps that they and the looks make for each slot."""

from pastlay.errors import BadLook, BadWish, NoSlot
from pastlay.looks import are_looks, shown
from pastlay.seeing import colours
from pastlay.shapes import is_colour, is_from_to, is_stretch, joined, rest

MOST_STRETCHES = 12


def is_wished(thing):
    """Whether thing is a tuple of the two places of a stretch and a colour or None."""
    if not isinstance(thing, tuple) or len(thing) != 3:
        return False
    low, high, colour = thing
    return is_stretch((low, high)) and (colour is None or is_colour(colour))


def is_wish(thing):
    """Whether thing is a wish: at most twelve stretches with what they are to show, apart and rising."""
    if not isinstance(thing, tuple) or len(thing) > MOST_STRETCHES:
        return False
    if not all([is_wished(part) for part in thing]):
        return False
    return all([thing[at][1] < thing[at + 1][0] for at in range(len(thing) - 1)])


def check_wish(wish):
    """BadWish where what is handed in as a wish is none."""
    if not is_wish(wish):
        raise BadWish("a wish is a rising tuple of at most twelve (low, high, colour), no place in two of them")


def check_looks(book, looks):
    """BadLook where what is handed in as looks is none of the book."""
    if not are_looks(book, looks):
        raise BadLook("looks are a tuple of at most twenty (moment, low, high), each a look at the book")


def firm(wish):
    """The places in none of a wish's stretches, as a row."""
    check_wish(wish)
    return rest([(low, high) for low, high, _ in wish])


def wrong(book, wish):
    """The wished places that don't show their colour, with it: a tuple of (low, high, colour)."""
    check_wish(wish)
    row = []
    for low, high, colour in wish:
        if colour is None:
            continue
        for begin, end, shows in colours(book):
            if shows == colour or end < low or high < begin:
                continue
            first = max(begin, low)
            # It goes on where what is wrong ahead ends beside it, also in another stretch of the wish.
            if row and row[-1][2] == colour and row[-1][1] + 1 == first:
                first = row.pop()[0]
            row.append((first, min(end, high), colour))
    return tuple(row)


def first_over(number):
    """The first slot that lies over a giver, or over nothing."""
    return 0 if number is None else number + 1


def barred(book, wish, looks):
    """All walls: a list of (low, high, least, most), the places from low to high for the slots from least to most."""
    entries = [(low, high, first_over(number), len(book)) for begin, end in firm(wish)
               for low, high, number in shown(book, (len(book), begin, end))]
    for look in looks:
        # A stroke that is put in at the look's own moment comes too late to be seen by it.
        entries += [(low, high, first_over(number), look[0] - 1) for low, high, number in shown(book, look)]
    return [(low, high, least, most) for low, high, least, most in entries if least <= most]


def walls(book, wish, slot, *, looks=()):
    """The places at which a stroke put in at a slot would be seen and must not be, as a row."""
    check_looks(book, looks)
    check_wish(wish)
    if not is_from_to(slot, 0, len(book)):
        raise NoSlot("a slot is a whole number from 0 to the number of strokes")
    return joined([(low, high) for low, high, least, most in barred(book, wish, looks) if least <= slot <= most])


def gaps(book, wish, slot, *, looks=()):
    """The places that are no walls for a slot, as a row."""
    return rest(walls(book, wish, slot, looks=looks))
