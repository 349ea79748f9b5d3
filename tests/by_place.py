"""What is seen, found place by place as the document's words tell it, for the tests."""

import itertools
import random

from tests import things


def giver_at(strokes, place):
    found = None
    for number, (low, high, _) in enumerate(strokes):
        if place in range(low, high + 1):
            found = number
    return found


def colour_at(strokes, place):
    number = giver_at(strokes, place)
    return None if number is None else strokes[number][2]


def starts(strokes, low, high):
    """The places from low to high at which another thing may be seen than at the place ahead."""
    edges = {low} | {stroke[0] for stroke in strokes} | {stroke[1] + 1 for stroke in strokes}
    return sorted(edge for edge in edges if low <= edge <= high)


def entries(strokes, worth_at, low=0, high=things.LAST):
    """The tuple of (low, high, worth), each as long as it can be."""
    firsts = starts(strokes, low, high)
    row = []
    for first, following in zip(firsts, firsts[1:] + [high + 1]):
        worth = worth_at(strokes, first)
        if row and row[-1][2] == worth:
            row[-1] = (row[-1][0], following - 1, worth)
        else:
            row.append((first, following - 1, worth))
    return tuple(row)


def hidden_ones(strokes):
    visible = {giver_at(strokes, place) for place in starts(strokes, 0, things.LAST)}
    return [number for number in range(len(strokes)) if number not in visible]


def small_books(most):
    """Each row of up to as many strokes over the first four places, and over the last four."""
    for least in (0, things.LAST - 3):
        stretches = list(itertools.combinations_with_replacement(range(least, least + 4), 2))
        for many in range(most + 1):
            for some in itertools.product(stretches, repeat=many):
                yield [(low, high, "aba"[at]) for at, (low, high) in enumerate(some)]


def large_books():
    """Rows of twenty to sixty strokes, the same ones each time."""
    chance = random.Random(7)
    for span in (12, 40, 200, things.LAST):
        for least in (0, things.LAST - span):
            for many in (20, 45, 60):
                ends = [sorted((least + chance.randint(0, span), least + chance.randint(0, span)))
                        for _ in range(many)]
                yield [(low, high, chance.choice(["a", "b", "red"])) for low, high in ends]
