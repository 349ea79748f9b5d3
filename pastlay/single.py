"""Wishes of one colour, where no looks were taken: the fewest strokes, and the bars by which there are no fewer."""

from pastlay.errors import NoColour, Several
from pastlay.seeing import giver, picture
from pastlay.shapes import both, is_place
from pastlay.wishes import MOST_STRETCHES, check_wish, first_over, gaps, walls, wrong


def only_colour(wish):
    """The one colour that a wish tells; BadWish, NoColour or Several where it tells none or more."""
    check_wish(wish)
    some = [colour for _, _, colour in wish if colour is not None]
    if not some:
        raise NoColour("the wish tells no colour")
    for colour in some:
        if colour != some[0]:
            raise Several("the wish tells more than one colour")
    return some[0]


def wrong_pieces(book, wish):
    """The wished places that are wrong, by givers: a list of (low, high, slot), the first slot that lies over them."""
    some = [(low, high) for low, high, _ in wrong(book, wish)]
    return [(begin, end, first_over(number)) for low, high, number in picture(book)
            for begin, end in both(some, [(low, high)])]


def gap_at(book, wish, slot, place):
    """The stretch of a slot's gaps in which a place lies."""
    return [(low, high) for low, high in gaps(book, wish, slot) if low <= place <= high][0]


def widest(book, wish):
    """Strokes that show all that is wrong: a list of (place, slot, low, high), a wrong place that each is needed for.

    What has the last giver goes first. The least slot over it leaves the widest gap around it, and a stroke over this
    whole gap is seen at all that is wrong there. So what is left lies outside, and walls of that slot lie between.
    """
    found = []
    for low, _, slot in sorted(wrong_pieces(book, wish), key=lambda piece: piece[2], reverse=True):
        if not [place for place, _, begin, end in found if begin <= low <= end]:
            begin, end = gap_at(book, wish, slot, low)
            found.append((low, slot, begin, end))
    return found


def fewest(book, wish):
    """A right laying, where no looks were taken, with as few strokes as there can be."""
    colour = only_colour(wish)
    some = [(slot, low, high, colour) for _, slot, low, high in widest(book, wish)]
    return tuple(sorted(some, key=lambda part: part[0]))


def bars(book, wish):
    """As many places, rising, of which no two can be shown by one stroke."""
    only_colour(wish)
    return tuple(sorted([place for place, _, _, _ in widest(book, wish)]))


def are_parted(book, wish, low, high):
    """Whether a firm place between two wrong ones is a wall for each slot that lies over both."""
    slot = max(first_over(giver(book, low)), first_over(giver(book, high)))
    return both(walls(book, wish, slot), [(low, high)]) != ()


def are_bars(book, wish, thing):
    """Whether thing is bars of the book and the wish, of any number of places."""
    only_colour(wish)
    # Of more places two lie in one stretch of the wish, where no place is firm.
    if not isinstance(thing, tuple) or len(thing) > MOST_STRETCHES:
        return False
    if not all([is_place(place) for place in thing]):
        return False
    some = [(low, high) for low, high, _ in wrong(book, wish)]
    if not all([both(some, [(place, place)]) for place in thing]):
        return False
    pairs = [(thing[i], thing[j]) for j in range(len(thing)) for i in range(j)]
    return all([low < high and are_parted(book, wish, low, high) for low, high in pairs])
