"""Wishes of one colour: point 14, and what point 3 says of them."""

import itertools
import random
import unittest

from pastlay.books import Book
from pastlay.errors import BadWish, NoColour, Several
from pastlay.layings import is_laying, is_right
from pastlay.least import least
from pastlay.seeing import colours
from pastlay.single import are_bars, bars, fewest
from tests import by_layings, by_place, cases, things

LAST = things.LAST
RED = (0, 9, "red")
BLUE = (3, 5, "blue")
WIDE = (0, LAST, "green")
FEW = ((2, 2, "a"), (6, 6, "a"))
NO_ONES = [(), ((0, LAST, None),), ((0, 3, None), (5, 9, None))]
MANY = [((0, 1, "a"), (2, 3, "b")), ((0, 1, "a"), (2, 3, None), (4, 4, "aa")),
        ((0, 1, "b"), (2, 3, "a"), (4, 5, "b")), ((0, 1, "a"), (2, 3, "a"), (4, 5, "b"))]


class SingleCase(cases.Case):
    def drawn(self, seed, many, **named):
        for strokes, wish, _, _ in by_layings.drawn(seed, many, colours=("a", "b"), **named):
            wish = by_layings.one_colour(wish)
            if any(part[2] is not None for part in wish):
                yield strokes, wish

    def assert_single(self, strokes, wish):
        """Both are told, and by them the strokes are the fewest; how many there are is told."""
        book = Book(strokes)
        laying = fewest(book, wish)
        why = (strokes, wish)
        self.assertIs(is_laying(book, laying), True, why)
        self.assertEqual(by_layings.broken(strokes, wish, laying, ()), [], why)
        places = bars(book, wish)
        self.assertIs(type(places), tuple)
        self.assertEqual({type(place) for place in places} | {int}, {int})
        self.assertEqual(len(places), len(laying), why)
        self.assertEqual(list(places), sorted(places), why)
        self.assertIs(by_layings.are_bars(strokes, wish, places), True, why + (places,))
        self.assertIs(are_bars(book, wish, places), True, why + (places,))
        self.assertEqual(book, Book(strokes))
        return len(laying)

    def assert_bars(self, book, wish, thing, answer):
        if are_bars(book, wish, thing) is not answer:
            self.fail(f"are_bars of {ascii(thing)[:200]} with {book!r} and {wish} is not {answer}")


class Fewest(SingleCase):
    def test_one_beneath_what_stands(self):
        book = Book([RED, BLUE])
        self.assertEqual(self.assert_single([RED, BLUE], FEW), 1)
        self.assertEqual(fewest(book, FEW)[0][0], 1)
        self.assertEqual(self.assert_single([RED], FEW), 2)
        self.assertEqual(self.assert_single([], FEW), 2)

    def test_givers_alike_between(self):
        # The place between has the same giver as the wished ones: no slot lies over them and not over it.
        self.assertEqual(self.assert_single([WIDE], FEW), 2)
        self.assertEqual(self.assert_single([(0, 2, "b"), (6, 6, "b"), (3, 5, "c")], FEW), 1)
        self.assertEqual(self.assert_single([(3, 5, "c"), (0, 2, "b"), (6, 6, "b")], FEW), 2)
        self.assertEqual(self.assert_single([(0, 2, "b"), (3, 5, "c"), (6, 6, "b")], FEW), 2)

    def test_a_bare_place_between(self):
        self.assertEqual(self.assert_single([(2, 2, "b"), (6, 6, "b")], FEW), 2)
        self.assertEqual(self.assert_single([(2, 2, "b"), (6, 6, "b"), (4, 4, "c")], FEW), 2)
        self.assertEqual(self.assert_single([(2, 2, "b"), (6, 6, "b"), (3, 5, "c")], FEW), 1)

    def test_what_stands_already(self):
        self.assert_same(fewest(Book([(0, 9, "a")]), FEW), ())
        self.assert_same(bars(Book([(0, 9, "a")]), FEW), ())
        self.assertEqual(self.assert_single([(0, 4, "a")], FEW), 1)
        # Between two wrong places one that shows the colour may be painted again.
        self.assertEqual(self.assert_single([(4, 4, "a")], ((2, 6, "a"),)), 1)
        self.assert_same(bars(Book(), ((0, 0, None), (1, 1, "a"))), (1,))

    def test_none_may_be_painted(self):
        self.assertEqual(self.assert_single([], ((2, 2, "a"), (3, 5, None), (6, 6, "a"))), 1)
        self.assertEqual(self.assert_single([], ((2, 2, "a"), (3, 4, None), (6, 6, "a"))), 2)

    def test_the_whole_wall(self):
        for strokes in ([], [RED], [RED, BLUE], [WIDE], [(0, 0, "b"), (LAST, LAST, "c")]):
            self.assertEqual(self.assert_single(strokes, ((0, LAST, "a"),)), 1)
            self.assertEqual(self.assert_single(strokes, ((0, 0, "a"), (LAST, LAST, "a"))), 2)
            self.assertEqual(self.assert_single(strokes, ((0, 0, "a"), (1, LAST - 1, None), (LAST, LAST, "a"))), 1)

    def test_twelve_stretches(self):
        wish = tuple((2 * at, 2 * at, "a") for at in range(12))
        self.assertEqual(self.assert_single([], wish), 12)
        self.assertEqual(self.assert_single([(0, 30, "b")], wish), 12)
        self.assertEqual(self.assert_single([(1, 5, "b"), (13, 13, "c")], wish), 10)
        self.assertEqual(self.assert_single([(0, 30, "b")] + [(at, at, "c") for at in range(1, 23, 2)], wish), 1)
        self.assertEqual(self.assert_single([(0, 30, "b")] + [(at, at, "c") for at in range(1, 23)], wish), 12)
        self.assertEqual(self.assert_single([(at, at, "c") for at in range(23)], wish), 12)
        self.assertEqual(self.assert_single([(at, at, "c") for at in range(0, 23, 2)]
                                            + [(at, at, "c") for at in range(1, 23, 2)], wish), 1)

    def test_against_a_search(self):
        for strokes, wish in self.drawn(71, 500, places=4):
            self.assertEqual(self.assert_single(strokes, wish), by_layings.cheapest(strokes, wish, (), {"a": 1}))

    def test_against_all_layings_of_fewer_strokes(self):
        stretches = list(itertools.combinations_with_replacement(range(4), 2)) + [(0, LAST), (3, LAST)]
        for strokes, wish in itertools.islice(self.drawn(72, 200, places=4, strokes=3), 0, None, 2):
            # The drawn ones over the first places alone.
            if any(low > 3 for low, _, _ in wish):
                continue
            for many in range(min(3, self.assert_single(strokes, wish))):
                for laying in by_layings.all_layings(len(strokes) + 1, stretches, ["a"], many):
                    self.assertNotEqual(by_layings.broken(strokes, wish, laying, ()), [], (strokes, wish, laying))

    def test_against_the_least(self):
        for strokes, wish in self.drawn(73, 800, places=9, strokes=7, stretches=8):
            self.assertEqual(self.assert_single(strokes, wish), least(Book(strokes), wish, {"a": 1})[0], (strokes, wish))

    def test_large_ones(self):
        chance = random.Random(74)
        for strokes in by_place.large_books():
            places = sorted({place for low, high, _ in strokes for place in (low, high)})
            wish = by_layings.one_colour(by_layings.drawn_wish(chance, places, ["a", "a", None]) + (), "a")
            if any(part[2] for part in wish):
                self.assert_single(strokes, wish)

    def test_more_than_forty_runs(self):
        strokes = [(2 * at, 2 * at, "b") for at in range(60)]
        self.assertEqual(self.assert_single(strokes, ((0, 200, "a"),)), 1)
        self.assertEqual(self.assert_single(strokes, tuple((9 * at, 9 * at + 3, "a") for at in range(12))), 12)

    def test_by_the_names(self):
        self.assert_same(fewest(wish=((0, LAST, "a"),), book=Book()), ((0, 0, LAST, "a"),))
        self.assert_same(bars(wish=((7, 7, "a"),), book=Book()), (7,))

    def test_behind_a_take_and_a_put(self):
        book = Book([RED, BLUE])
        self.assertEqual(len(fewest(book, FEW)), 1)
        book.take(0)
        book.put(1, RED)
        self.assertEqual(len(fewest(book, FEW)), 2)
        self.assertEqual(len(bars(book, FEW)), 2)
        self.assert_bars(book, FEW, (2, 6), True)
        book.take(1)
        book.put(0, RED)
        self.assert_bars(book, FEW, (2, 6), False)
        self.assertEqual(colours(book), ((0, 2, "red"), (3, 5, "blue"), (6, 9, "red"), (10, LAST, None)))


class Bars(SingleCase):
    def test_as_many_as_can_be(self):
        for strokes, wish in self.drawn(75, 400, places=5):
            book = Book(strokes)
            places = [place for low in (0, LAST - 4) for place in range(low, low + 5)]
            most = max(many for many in range(5) for some in itertools.combinations(places, many)
                       if by_layings.are_bars(strokes, wish, some))
            self.assertEqual(len(bars(book, wish)), most, (strokes, wish))

    def test_all_lots_of_places(self):
        for strokes, wish in self.drawn(76, 250, places=5):
            book = Book(strokes)
            low = 0 if wish[0][0] < 9 else LAST - 5
            places = range(low, low + 6)
            for many in range(4):
                for some in itertools.product(places, repeat=many):
                    self.assert_bars(book, wish, some, by_layings.are_bars(strokes, wish, some))

    def test_of_some(self):
        book = Book([RED, BLUE])
        self.assert_bars(book, FEW, (), True)
        self.assert_bars(book, FEW, (2,), True)
        self.assert_bars(book, FEW, (6,), True)
        self.assert_bars(book, FEW, (2, 6), False)
        self.assert_bars(Book([RED]), FEW, (2, 6), True)
        self.assert_bars(Book([RED]), FEW, (6, 2), False)
        self.assert_bars(Book([RED]), FEW, (2, 2), False)
        self.assert_bars(Book([RED]), FEW, (2, 6, 6), False)

    def test_places_that_are_not_wrong(self):
        book = Book([(0, 4, "a")])
        for place in (0, 2, 3, 5, 7, LAST):
            self.assert_bars(book, FEW, (place,), False)
            self.assert_bars(book, FEW, tuple(sorted((place, 6))), False)
        self.assert_bars(book, FEW, (6,), True)
        self.assert_bars(Book(), ((2, 2, "a"), (4, 4, None), (6, 6, "a")), (4,), False)

    def test_bare_counts_as_less_than_all(self):
        # Two bare places, and between them one with the first stroke: beneath it one stroke shows both.
        self.assert_bars(Book([(3, 5, "b")]), FEW, (2, 6), False)
        self.assert_bars(Book([(3, 4, "b")]), FEW, (2, 6), True)
        self.assert_bars(Book([(3, 5, "b"), (6, 6, "c")]), FEW, (2, 6), True)
        self.assert_bars(Book([(6, 6, "c"), (3, 5, "b")]), FEW, (2, 6), False)

    def test_the_greater_one_of_theirs(self):
        self.assert_bars(Book([(2, 2, "b"), (3, 5, "c"), (6, 6, "d")]), FEW, (2, 6), True)
        self.assert_bars(Book([(6, 6, "b"), (3, 5, "c"), (2, 2, "d")]), FEW, (2, 6), True)
        self.assert_bars(Book([(6, 6, "b"), (2, 2, "d"), (3, 5, "c")]), FEW, (2, 6), False)

    def test_each_two(self):
        wish = ((0, 0, "a"), (2, 2, "a"), (4, 4, "a"))
        strokes = [(0, 0, "b"), (4, 4, "b"), (1, 1, "c"), (3, 3, "c"), (2, 2, "d")]
        self.assert_bars(Book(strokes), wish, (0, 2), True)
        self.assert_bars(Book(strokes), wish, (2, 4), True)
        self.assert_bars(Book(strokes), wish, (0, 4), False)
        self.assert_bars(Book(strokes), wish, (0, 2, 4), False)

    def test_twelve_and_thirteen(self):
        wish = tuple((3 * at, 3 * at + 1, "a") for at in range(12))
        places = tuple(3 * at for at in range(12))
        self.assert_bars(Book(), wish, places, True)
        self.assert_bars(Book(), wish, places[:5] + (13,) + places[5:], False)
        self.assert_bars(Book(), wish, places + (34,), False)
        self.assert_bars(Book(), wish, tuple(range(36)), False)

    def test_things_that_are_no_bars(self):
        book = Book([RED])
        for thing in things.ANYTHING + [2, 6, [2, 6], [2], [], {2: 6}, "26", (2, (6,)), ((2, 6),), (2, "6"), (True,), (False,)]:
            self.assert_bars(book, FEW, thing, thing == ())
        for thing in things.ANYTHING:
            for some in ((thing,), (2, thing), (thing, 6)):
                self.assert_bars(book, FEW, some, False)
        for thing in (True, False):
            self.assert_bars(Book(), ((0, 0, "a"), (1, 1, "a")), (thing,), False)

    def test_by_the_names(self):
        self.assertIs(are_bars(thing=(2, 6), wish=FEW, book=Book([RED])), True)
        self.assertIs(are_bars(thing=[2, 6], wish=FEW, book=Book([RED])), False)


class Refused(SingleCase):
    def asks(self):
        return [fewest, bars] + [lambda book, wish, thing=thing: are_bars(book, wish, thing)
                                 for thing in ((), (2,), None, [], "x", (2, 6))]

    def test_no_wish(self):
        for book in (Book(), Book([RED])):
            for wish in things.NO_WISHES:
                for ask in self.asks()[:3]:
                    self.assert_refused(BadWish, ask, book, wish)
            for wish in things.NO_WISHES[::20]:
                for ask in self.asks():
                    self.assert_refused(BadWish, ask, book, wish)

    def test_no_colour(self):
        for book in (Book(), Book([RED]), Book([WIDE])):
            for wish in NO_ONES:
                for ask in self.asks():
                    self.assert_refused(NoColour, ask, book, wish)

    def test_several(self):
        for book in (Book(), Book([RED]), Book([(0, 1, "a"), (2, 3, "b")])):
            for wish in MANY:
                for ask in self.asks():
                    self.assert_refused(Several, ask, book, wish)
            self.assertIs(is_right(book, (), ()), True)

    def test_no_wish_goes_ahead(self):
        for wish in (((0, 1, "a"), (1, 3, "b")), ((0, 1, None), (0, 1, None)), [], [(0, 1, None)]):
            for ask in self.asks():
                self.assert_refused(BadWish, ask, Book(), wish)


if __name__ == "__main__":
    unittest.main()
