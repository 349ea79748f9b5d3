"""Places, stretches, colours and strokes, and rows of stretches."""

LAST = 1000000000


def is_from_to(thing, least, most):
    """Whether thing is a whole number from least to most."""
    # To Python a truth is an int, too; here it is no number.
    return isinstance(thing, int) and not isinstance(thing, bool) and least <= thing <= most


def is_place(thing):
    """Whether thing is a place."""
    return is_from_to(thing, 0, LAST)


def is_stretch(thing):
    """Whether thing is a stretch: a tuple of two places, the first at most the second."""
    if not isinstance(thing, tuple) or len(thing) != 2:
        return False
    low, high = thing
    return is_place(low) and is_place(high) and low <= high


def is_colour(thing):
    """Whether thing is a colour: a text of one to eight small letters."""
    if not isinstance(thing, str) or not 1 <= len(thing) <= 8:
        return False
    # islower takes letters of other alphabets, too, so each sign is compared.
    return all(["a" <= sign <= "z" for sign in thing])


def is_stroke(thing):
    """Whether thing is a stroke: a tuple of the two places of a stretch and a colour."""
    if not isinstance(thing, tuple) or len(thing) != 3:
        return False
    low, high, colour = thing
    return is_stretch((low, high)) and is_colour(colour)


def joined(some):
    """All places of some stretches, as a row."""
    row = []
    for low, high in sorted(some):
        # Stretches that touch have no place between them, so they are one in a row.
        if row and low <= row[-1][1] + 1:
            row[-1] = (row[-1][0], max(row[-1][1], high))
        else:
            row.append((low, high))
    return tuple(row)


def rest(some):
    """All places that are in none of some stretches, as a row."""
    row = []
    begin = 0
    for low, high in joined(some):
        if begin < low:
            row.append((begin, low - 1))
        begin = high + 1
    if begin <= LAST:
        row.append((begin, LAST))
    return tuple(row)


def both(some, others):
    """The places that are in some of the one and in some of the other stretches, as a row."""
    first = joined(some)
    second = joined(others)
    row = []
    i = 0
    j = 0
    while i < len(first) and j < len(second):
        low = max(first[i][0], second[j][0])
        high = min(first[i][1], second[j][1])
        if low <= high:
            row.append((low, high))
        # Of the two the one that ends first crosses nothing further on.
        if first[i][1] < second[j][1]:
            i += 1
        else:
            j += 1
    return tuple(row)


def apart(some, others):
    """The places of some stretches that are in none of the others, as a row."""
    return both(some, rest(others))
