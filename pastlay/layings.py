"""Layings: strokes that are put in, with their slots; what they keep, break and cost."""

from pastlay.errors import BadLaying, BadLook, BadPrices
from pastlay.looks import is_look, shown
from pastlay.seeing import picture
from pastlay.shapes import both, is_colour, is_from_to, is_stroke, joined
from pastlay.wishes import check_looks, check_wish, firm, wrong

DEAREST = 999


def is_put(book, thing):
    """Whether thing is a tuple of a slot of the book and the three parts of a stroke."""
    if not isinstance(thing, tuple) or len(thing) != 4:
        return False
    return is_from_to(thing[0], 0, len(book)) and is_stroke(thing[1:])


def is_laying(book, thing):
    """Whether thing is a laying of the book: a tuple of (slot, low, high, colour), its slots not falling."""
    if not isinstance(thing, tuple) or not all([is_put(book, part) for part in thing]):
        return False
    return all([thing[at][0] <= thing[at + 1][0] for at in range(len(thing) - 1)])


def check_laying(book, laying):
    """BadLaying where what is handed in as a laying is none of the book."""
    if not is_laying(book, laying):
        raise BadLaying("a laying is a tuple of (slot, low, high, colour), its slots of the book and not falling")


def are_prices(thing):
    """Whether thing is prices: a dict from colours to whole numbers from 1 to 999."""
    if not isinstance(thing, dict):
        return False
    return all([is_colour(colour) and is_from_to(price, 1, DEAREST) for colour, price in thing.items()])


def check_prices(prices):
    """BadPrices where what is handed in as prices is none."""
    if not are_prices(prices):
        raise BadPrices("prices are a dict from colours to whole numbers from 1 to 999")


def check_priced(some, prices):
    """BadPrices where one of some colours has no price."""
    for colour in some:
        if colour not in prices:
            raise BadPrices(f"the colour {colour} has no price")


def laid(book, laying):
    """A new book: this one with all strokes of a laying put in."""
    check_laying(book, laying)
    later = book.copy()
    for at, (slot, low, high, colour) in enumerate(laying):
        # As many as went in ahead stand beneath it by now.
        later.put(slot + at, (low, high, colour))
    return later


def numbers(book, laying):
    """The new numbers: a pair of rising lists, of the elder strokes and of those put in."""
    check_laying(book, laying)
    elder = [number + len([part for part in laying if part[0] <= number]) for number in range(len(book))]
    return elder, [part[0] + at for at, part in enumerate(laying)]


def led_over(book, look, laying):
    """The look at the laid book that is this look at the book."""
    if not is_look(book, look):
        raise BadLook("a look is a tuple of a moment of the book and two places, low and high")
    check_laying(book, laying)
    moment, low, high = look
    return moment + len([part for part in laying if part[0] < moment]), low, high


def unlike(some, others, elder):
    """Where entries of a book aren't those of the laid one, givers by their new numbers: a row."""
    row = []
    i = 0
    j = 0
    # Both begin and end at the same places, so neither has entries left where the other one has none.
    while i < len(some):
        low = max(some[i][0], others[j][0])
        high = min(some[i][1], others[j][1])
        number = some[i][2]
        if others[j][2] != (None if number is None else elder[number]):
            row.append((low, high))
        if some[i][1] == high:
            i += 1
        if others[j][1] == high:
            j += 1
    return joined(row)


def broken(book, wish, laying, *, looks=()):
    """What a laying breaks: a rising list of (number, low, high), -1 for what is seen now, else a look's number."""
    check_looks(book, looks)
    check_wish(wish)
    later = laid(book, laying)
    elder, _ = numbers(book, laying)
    firm_ones = both(unlike(picture(book), picture(later), elder), firm(wish))
    wished_ones = tuple([(low, high) for low, high, _ in wrong(later, wish)])
    found = [(-1, low, high) for low, high in joined(firm_ones + wished_ones)]
    for number, look in enumerate(looks):
        others = shown(later, led_over(book, look, laying))
        found += [(number, low, high) for low, high in unlike(shown(book, look), others, elder)]
    return found


def is_right(book, wish, laying, *, looks=()):
    """Whether a laying is right for looks and a wish."""
    return not broken(book, wish, laying, looks=looks)


def price_of(book, laying, prices):
    """The sum of the prices of a laying's colours."""
    check_prices(prices)
    check_laying(book, laying)
    some = [part[3] for part in laying]
    check_priced(some, prices)
    return sum([prices[colour] for colour in some])


def behind(book, first, second):
    """A laying of the book and one of the book laid by it, both together as one laying of the book."""
    middle = laid(book, first)
    last = laid(middle, second)
    elder, _ = numbers(book, first)
    kept, _ = numbers(middle, second)
    elder_ones = [kept[number] for number in elder]
    row = []
    slot = 0
    for number, (low, high, colour) in enumerate(last.strokes()):
        if number in elder_ones:
            slot += 1
        else:
            row.append((slot, low, high, colour))
    return tuple(row)


def cut_back(book, laying):
    """A laying's strokes that are seen now, each from the first to the last place at which it is."""
    later = laid(book, laying)
    ends = {}
    for low, high, number in picture(later):
        first, _ = ends.get(number, (low, high))
        ends[number] = (first, high)
    _, put_in = numbers(book, laying)
    return tuple([(part[0], ends[number][0], ends[number][1], part[3]) for part, number in zip(laying, put_in)
                  if number in ends])
