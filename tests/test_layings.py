"""Layings: points 11, 12 and 13, and what point 3 says of them."""

import itertools
import random
import unittest

from pastlay.books import Book
from pastlay.errors import BadLaying, BadLook, BadPrices, BadWish
from pastlay.layings import (
    are_prices, behind, broken, cut_back, is_laying, is_right, laid, led_over, numbers, price_of)
from pastlay.looks import shown
from pastlay.seeing import colours, giver, hidden, picture
from pastlay.shapes import apart
from pastlay.wishes import gaps
from tests import by_layings, by_place, cases, things

LAST = things.LAST
RED = (0, 9, "red")
BLUE = (3, 5, "blue")
WIDE = (0, LAST, "green")
WHOLE = ((0, LAST, None),)
NO_PARTS_OF_BOOKS = [(3, 0, 1, "red"), (LAST, 0, 1, "red"), (-1, 0, 1, "red")]


class LayingsCase(cases.Case):
    def assert_laying(self, book, thing, answer):
        if is_laying(book, thing) is not answer:
            self.fail(f"is_laying of {ascii(thing)[:200]} is not {answer}")

    def assert_laid(self, strokes, laying):
        wanted = by_layings.laid(strokes, laying)
        book = Book(strokes)
        later = laid(book, laying)
        self.assertIs(type(later), Book)
        self.assert_same(later.strokes(), tuple(stroke for stroke, _ in wanted), (strokes, laying))
        elder = [at for at, (_, number) in enumerate(wanted) if number is not None]
        put_in = [at for at, (_, number) in enumerate(wanted) if number is None]
        self.assert_same(numbers(book, laying), (elder, put_in), (strokes, laying))
        self.assertEqual(book, Book(strokes))


class IsLaying(LayingsCase):
    def test_layings(self):
        book = Book([RED, BLUE])
        for laying in ((), ((0, 0, 9, "a"),), ((2, 0, LAST, "a"),), ((0, 0, 0, "a"), (0, 0, 0, "a")),
                       ((0, 5, 9, "b"), (0, 0, 1, "a"), (1, 7, 7, "b"), (2, 0, LAST, "zzzzzzzz"), (2, LAST, LAST, "a"))):
            self.assert_laying(book, laying, True)

    def test_each_slot(self):
        for many in range(4):
            book = Book([RED] * many)
            for slot in range(6):
                self.assert_laying(book, ((slot, 0, 1, "red"),), slot <= many)

    def test_each_stroke(self):
        for stroke in things.STROKES:
            self.assert_laying(Book(), ((0,) + stroke,), True)

    def test_slots_that_fall(self):
        book = Book([RED, BLUE])
        for slots in itertools.product(range(3), repeat=3):
            laying = tuple((slot, 0, 1, "red") for slot in slots)
            self.assert_laying(book, laying, list(slots) == sorted(slots))

    def test_no_layings(self):
        for book in (Book(), Book([RED, BLUE])):
            for thing in things.NO_LAYINGS + [(part,) for part in NO_PARTS_OF_BOOKS]:
                self.assert_laying(book, thing, False)

    def test_of_many_strokes(self):
        self.assert_laying(Book(), ((0, 0, 1, "red"),) * 1000, True)
        self.assert_laying(Book(), ((0, 0, 1, "red"),) * 1000 + ((1, 0, 1, "red"),), False)

    def test_what_is_told_is_a_truth(self):
        for thing in ((), ((0, 0, 1, "red"),), None, [], 0, "red", (None,)):
            self.assertIs(type(is_laying(Book(), thing)), bool)

    def test_by_the_names(self):
        self.assertIs(is_laying(thing=((1, 0, 1, "red"),), book=Book([RED])), True)

    def test_behind_a_put_and_a_take(self):
        book = Book([RED])
        laying = ((2, 0, 1, "red"),)
        self.assert_laying(book, laying, False)
        book.put(0, BLUE)
        self.assert_laying(book, laying, True)
        book.take(0)
        self.assert_laying(book, laying, False)


class Laid(LayingsCase):
    def test_ahead_of_the_stroke_with_the_number(self):
        book = Book([RED, BLUE])
        self.assert_same(laid(book, ((0, 1, 1, "a"),)).strokes(), ((1, 1, "a"), RED, BLUE))
        self.assert_same(laid(book, ((1, 1, 1, "a"),)).strokes(), (RED, (1, 1, "a"), BLUE))
        self.assert_same(laid(book, ((2, 1, 1, "a"),)).strokes(), (RED, BLUE, (1, 1, "a")))

    def test_one_behind_the_other(self):
        laying = ((0, 1, 1, "a"), (0, 2, 2, "b"), (1, 3, 3, "c"), (2, 4, 4, "d"), (2, 1, 1, "e"))
        self.assert_same(laid(Book([RED, BLUE]), laying).strokes(),
                         ((1, 1, "a"), (2, 2, "b"), RED, (3, 3, "c"), BLUE, (4, 4, "d"), (1, 1, "e")))
        self.assert_same(numbers(Book([RED, BLUE]), laying), ([2, 4], [0, 1, 3, 5, 6]))
        self.assert_same(giver(laid(Book(), ((0, 0, 5, "a"), (0, 3, 9, "b"))), 4), 1)

    def test_of_none(self):
        for strokes in ([], [RED, BLUE]):
            self.assert_laid(strokes, ())
            self.assertIsNot(laid(Book(strokes), ()), Book(strokes))
        self.assert_same(numbers(Book(), ()), ([], []))
        self.assert_same(numbers(Book([RED, BLUE]), ()), ([0, 1], []))

    def test_of_none_is_a_new_book(self):
        book = Book([RED])
        later = laid(book, ())
        later.put(0, BLUE)
        self.assertEqual(book, Book([RED]))
        book.take(0)
        self.assertEqual(later, Book([BLUE, RED]))

    def test_drawn_ones(self):
        for strokes, _, _, laying in by_layings.drawn(11, 500, most=6):
            self.assert_laid(strokes, laying)
        chance = random.Random(12)
        for strokes in by_place.large_books():
            self.assert_laid(strokes, by_layings.drawn_laying(chance, list(range(9)), ["x"], len(strokes), 30))

    def test_told_lists_are_the_askers_own(self):
        book = Book([RED])
        laying = ((0, 0, 1, "a"), (1, 0, 1, "b"))
        told = numbers(book, laying)
        self.assertIs(type(told), tuple)
        told[0].append(7)
        told[1].clear()
        self.assert_same(numbers(book, laying), ([1], [0, 2]))

    def test_no_laying(self):
        for book in (Book(), Book([RED, BLUE])):
            kept = book.copy()
            for thing in things.NO_LAYINGS + [(part,) for part in NO_PARTS_OF_BOOKS]:
                self.assert_refused(BadLaying, laid, book, thing)
                self.assert_refused(BadLaying, numbers, book, thing)
            self.assertEqual(book, kept)

    def test_by_the_names(self):
        self.assert_same(laid(laying=((0, 0, 1, "a"),), book=Book([RED])).strokes(), ((0, 1, "a"), RED))
        self.assert_same(numbers(laying=((0, 0, 1, "a"),), book=Book([RED])), ([1], [0]))

    def test_behind_a_take_and_a_put(self):
        book = Book([RED, BLUE])
        laying = ((1, 0, 1, "a"),)
        laid(book, laying)
        book.take(0)
        book.put(1, WIDE)
        self.assert_same(laid(book, laying).strokes(), (BLUE, (0, 1, "a"), WIDE))
        book.take(0)
        self.assert_same(numbers(book, laying), ([0], [1]))
        book.take(0)
        self.assert_refused(BadLaying, laid, book, laying)


class LedOver(LayingsCase):
    def test_as_many_more_as_have_lesser_slots(self):
        book = Book([RED, BLUE])
        laying = ((0, 1, 1, "a"), (1, 1, 1, "a"), (1, 1, 1, "b"), (2, 1, 1, "a"))
        self.assert_same([led_over(book, (moment, 3, 4), laying) for moment in range(3)],
                         [(0, 3, 4), (2, 3, 4), (5, 3, 4)])
        self.assert_same(led_over(book, (2, 0, LAST), ()), (2, 0, LAST))
        self.assert_same(led_over(Book(), (0, 0, 0), ((0, 0, 0, "a"),) * 5), (0, 0, 0))

    def test_it_sees_what_was_done_by_then(self):
        for strokes, _, looks, laying in by_layings.drawn(13, 500, most=5):
            book = Book(strokes)
            for look in looks:
                told = led_over(book, look, laying)
                self.assertIs(type(told), tuple)
                wanted = tuple(stroke for stroke, _ in by_layings.done_by(strokes, laying, look[0]))
                self.assert_same(laid(book, laying).strokes()[:told[0]], wanted, (strokes, look, laying))
                self.assertEqual(told[1:], look[1:])

    def test_no_look(self):
        book = Book([RED])
        for thing in things.NO_LOOKS + [(2, 0, 9), ((0, 0, 9),), ()]:
            self.assert_refused(BadLook, led_over, book, thing, ())
            self.assert_refused(BadLook, led_over, book, thing, None)
            self.assert_refused(BadLook, led_over, book, thing, ((2, 0, 1, "a"),))

    def test_no_laying(self):
        book = Book([RED, BLUE])
        for thing in things.NO_LAYINGS + [(part,) for part in NO_PARTS_OF_BOOKS]:
            self.assert_refused(BadLaying, led_over, book, (0, 0, 9), thing)

    def test_by_the_names(self):
        self.assert_same(led_over(laying=((0, 0, 1, "a"),), look=(1, 2, 3), book=Book([RED])), (2, 2, 3))


class Broken(LayingsCase):
    def assert_broken(self, strokes, wish, laying, looks):
        book = Book(strokes)
        told = broken(book, wish, laying, looks=looks)
        why = (strokes, wish, laying, looks)
        self.assertIs(type(told), list)
        self.assert_same(told, by_layings.broken(strokes, wish, laying, looks), why)
        self.assert_same(told, sorted(told), why)
        self.assertIs(is_right(book, wish, laying, looks=looks), not told)

    def test_wished_places(self):
        book = Book([RED])
        wish = ((3, 5, "blue"),)
        self.assert_same(broken(book, wish, ()), [(-1, 3, 5)])
        self.assert_same(broken(book, wish, ((1, 3, 5, "blue"),)), [])
        self.assert_same(broken(book, wish, ((1, 3, 5, "red"),)), [(-1, 3, 5)])
        self.assert_same(broken(book, wish, ((1, 4, 5, "blue"),)), [(-1, 3, 3)])
        self.assert_same(broken(book, wish, ((0, 3, 5, "blue"),)), [(-1, 3, 5)])
        self.assert_same(broken(Book(), wish, ()), [(-1, 3, 5)])

    def test_firm_places(self):
        book = Book([RED, BLUE])
        self.assert_same(broken(book, (), ((2, 4, 7, "red"),)), [(-1, 4, 7)])
        self.assert_same(broken(book, (), ((1, 4, 7, "red"),)), [(-1, 6, 7)])
        self.assert_same(broken(book, (), ((0, 4, 7, "red"),)), [])
        self.assert_same(broken(book, (), ((0, 4, 11, "red"),)), [(-1, 10, 11)])
        self.assert_same(broken(book, (), ((0, 4, 11, "red"), (2, 0, 0, "red"))), [(-1, 0, 0), (-1, 10, 11)])

    def test_firm_and_wished_ones_are_one_row(self):
        book = Book([RED])
        self.assert_same(broken(book, ((3, 5, "blue"),), ((1, 6, 7, "a"),)), [(-1, 3, 7)])
        self.assert_same(broken(book, ((3, 5, "blue"), (6, 9, "a")), ()), [(-1, 3, 9)])
        self.assert_same(broken(book, ((3, 5, "blue"),), ((1, 7, 7, "a"),)), [(-1, 3, 5), (-1, 7, 7)])

    def test_none_is_always_right(self):
        book = Book([RED])
        self.assert_same(broken(book, WHOLE, ((1, 4, 7, "a"), (1, 0, LAST, "b"))), [])
        self.assert_same(broken(book, ((0, 5, None),), ((1, 4, 7, "a"),)), [(-1, 6, 7)])

    def test_looks(self):
        book = Book([RED, BLUE])
        laying = ((1, 4, 7, "a"),)
        self.assert_same(broken(book, WHOLE, laying, looks=((2, 0, 9),)), [(0, 6, 7)])
        self.assert_same(broken(book, WHOLE, laying, looks=((1, 0, 9),)), [])
        self.assert_same(broken(book, WHOLE, laying, looks=((0, 0, 9), (2, 7, 9), (1, 0, 9), (2, 0, 6))),
                         [(1, 7, 7), (3, 6, 6)])
        self.assert_same(broken(book, WHOLE, ((0, 8, 11, "a"),), looks=((1, 0, LAST),)), [(0, 10, 11)])
        self.assert_same(broken(book, WHOLE, ((0, 8, 11, "a"),), looks=((0, 0, LAST),)), [])

    def test_looks_behind_what_is_seen_now(self):
        book = Book([RED, BLUE])
        self.assert_same(broken(book, (), ((2, 0, 1, "a"), (2, 8, 9, "a")), looks=((2, 9, 9), (2, 8, 8), (2, 0, 9))),
                         [(-1, 0, 1), (-1, 8, 9)])
        self.assert_same(broken(book, (), ((1, 0, 1, "a"), (1, 8, 9, "a")), looks=((2, 9, 9), (2, 8, 8), (2, 0, 9))),
                         [(-1, 0, 1), (-1, 8, 9), (0, 9, 9), (1, 8, 8), (2, 0, 1), (2, 8, 9)])

    def test_the_same_colour_by_another_giver(self):
        self.assert_same(broken(Book([RED]), (), ((1, 0, 9, "red"),)), [(-1, 0, 9)])
        self.assert_same(broken(Book([RED, BLUE]), WHOLE, ((1, 0, 9, "red"),), looks=((2, 0, 9),)), [(0, 0, 2), (0, 6, 9)])
        self.assert_same(broken(Book([RED]), ((0, 9, "red"),), ((1, 0, 9, "red"),)), [])

    def test_strokes_put_in_that_are_hidden(self):
        book = Book([RED, BLUE])
        self.assert_same(broken(book, (), ((0, 0, 9, "a"), (1, 3, 5, "a")), looks=((1, 0, 9), (2, 0, 9))), [])
        self.assert_same(broken(book, (), ((0, 0, 9, "a"), (0, 3, 12, "b"), (0, 2, 12, "a"))), [(-1, 10, 12)])

    def test_drawn_ones(self):
        for strokes, wish, looks, laying in by_layings.drawn(14, 2500):
            self.assert_broken(strokes, wish, laying, looks)
        for strokes, wish, looks, laying in by_layings.drawn(15, 500, places=9, strokes=8, stretches=8, most=8):
            self.assert_broken(strokes, wish, laying, looks)
            self.assert_broken(strokes, (), laying, looks)
            self.assert_broken(strokes, wish, (), looks)

    def test_all_layings_of_one_stroke(self):
        stretches = list(itertools.combinations_with_replacement(range(4), 2))
        for strokes in ([], [(1, 2, "a")], [(0, 2, "a"), (1, 3, "b")]):
            for laying in by_layings.all_layings(len(strokes) + 1, stretches, ["a", "b"], 1):
                for wish in ((), ((1, 2, "b"),), ((0, 1, "b"), (2, 2, None))):
                    for looks in ((), ((len(strokes), 1, 3),)):
                        self.assert_broken(strokes, wish, laying, looks)

    def test_large_ones(self):
        chance = random.Random(16)
        for strokes in by_place.large_books():
            places = sorted({place for low, high, _ in strokes for place in (low, high)})
            wish = by_layings.drawn_wish(chance, places, ["a", "b", None])
            looks = tuple((chance.randint(0, len(strokes)),) + by_layings.drawn_stretch(chance, places) for _ in range(20))
            laying = by_layings.drawn_laying(chance, places, ["a", "b"], len(strokes), 9)
            told = broken(Book(strokes), wish, laying, looks=looks[:2])
            self.assert_same(told, by_layings.broken(strokes, wish, laying, looks[:2]))
            self.assertIs(is_right(Book(strokes), wish, laying, looks=looks),
                          not by_layings.broken(strokes, wish, laying, looks))

    def test_within_the_gaps_and_nothing_else(self):
        # What point 3 says: firm places and looks stay just where each stroke, for itself, lies within its slot's gaps.
        kept = 0
        for strokes, wish, looks, laying in by_layings.drawn(17, 4000, most=2):
            book = Book(strokes)
            stays = all(not apart([(low, high)], gaps(book, wish, slot, looks=looks)) for slot, low, high, _ in laying)
            free = tuple((low, high, None) for low, high, _ in wish)
            self.assertIs(is_right(book, free, laying, looks=looks), stays, (strokes, wish, looks, laying))
            kept += stays
        self.assertGreater(kept, 400)

    def test_told_lists_are_the_askers_own(self):
        book = Book([RED])
        told = broken(book, ((3, 5, "a"),), ())
        told.clear()
        self.assert_same(broken(book, ((3, 5, "a"),), ()), [(-1, 3, 5)])

    def test_which_comes_first(self):
        book = Book([RED])
        for act in (broken, is_right):
            for looks in things.NO_LOOKS_AT_ALL[::5] + [((2, 0, 1),), ((0, 0, 1),) * 21]:
                self.assert_refused(BadLook, act, book, None, None, looks=looks)
                self.assert_refused(BadLook, act, book, (), (), looks=looks)
            for wish in things.NO_WISHES[::5]:
                self.assert_refused(BadWish, act, book, wish, None)
                self.assert_refused(BadWish, act, book, wish, (), looks=((1, 0, 1),))
            for laying in things.NO_LAYINGS + [((2, 0, 1, "red"),)]:
                self.assert_refused(BadLaying, act, book, (), laying)
        self.assertEqual(book, Book([RED]))

    def test_by_the_names(self):
        book = Book([RED])
        self.assert_same(broken(looks=((1, 9, 9),), laying=((0, 9, 11, "a"),), wish=WHOLE, book=book), [])
        self.assert_same(broken(laying=((0, 9, 11, "a"),), wish=(), book=book), [(-1, 10, 11)])
        self.assertIs(is_right(looks=((1, 9, 10),), laying=((0, 9, 11, "a"),), wish=WHOLE, book=book), False)
        for act in (broken, is_right):
            with self.assertRaises(TypeError):
                act(book, (), (), ())

    def test_behind_a_put_and_a_take(self):
        book = Book([RED])
        laying = ((0, 0, 12, "a"),)
        self.assert_same(broken(book, (), laying), [(-1, 10, 12)])
        book.put(1, (5, 11, "b"))
        self.assert_same(broken(book, (), laying), [(-1, 12, 12)])
        book.take(0)
        book.put(0, (0, 3, "b"))
        self.assert_same(broken(book, (), laying), [(-1, 4, 4), (-1, 12, 12)])


class Prices(LayingsCase):
    def test_are_prices(self):
        for thing in things.PRICES:
            self.assertIs(are_prices(thing), True, thing)
        for thing in things.NO_PRICES:
            self.assertIs(are_prices(thing), False, ascii(thing)[:200])
        self.assertIs(are_prices(thing={"red": 5}), True)

    def test_from_1_to_999(self):
        for price in range(-2, 1003):
            self.assertIs(are_prices({"red": price}), 1 <= price <= 999)
            self.assertIs(are_prices({"blue": 1, "red": price}), 1 <= price <= 999)

    def test_price_of(self):
        book = Book([RED])
        prices = {"a": 1, "b": 999, "c": 30, "d": 7}
        self.assert_same(price_of(book, (), prices), 0)
        self.assert_same(price_of(book, (), {}), 0)
        self.assert_same(price_of(book, ((0, 0, 1, "a"),), prices), 1)
        self.assert_same(price_of(book, ((0, 0, 1, "c"), (0, 0, 1, "a"), (1, 5, LAST, "c"), (1, 0, 0, "b")), prices), 1060)

    def test_no_prices(self):
        book = Book([RED])
        for prices in things.NO_PRICES:
            for laying in ((), ((0, 0, 1, "red"),), None, ((2, 0, 1, "red"),), [], ((0, 0, 1, "a"),)):
                self.assert_refused(BadPrices, price_of, book, laying, prices)

    def test_no_laying_goes_ahead_of_a_colour_that_lacks(self):
        book = Book([RED])
        for laying in things.NO_LAYINGS + [((2, 0, 1, "a"),), ((0, 0, 1, "a"), (2, 0, 1, "a"))]:
            for prices in ({}, {"red": 1}, {"a": 1}):
                self.assert_refused(BadLaying, price_of, book, laying, prices)

    def test_a_colour_that_lacks(self):
        book = Book([RED])
        prices = {"a": 1, "aa": 2}
        self.assert_refused(BadPrices, price_of, book, ((0, 0, 1, "b"),), prices)
        self.assert_refused(BadPrices, price_of, book, ((0, 0, 1, "a"), (1, 0, 1, "b")), prices)
        self.assert_refused(BadPrices, price_of, book, ((0, 0, 1, "b"), (1, 0, 1, "a")), prices)
        self.assert_refused(BadPrices, price_of, book, ((0, 0, 1, "a"),), {})
        self.assertEqual(prices, {"a": 1, "aa": 2})

    def test_by_the_names(self):
        self.assert_same(price_of(prices={"a": 3}, laying=((0, 0, 1, "a"),), book=Book()), 3)


class Behind(LayingsCase):
    def drawn_pairs(self, seed, many):
        chance = random.Random(seed)
        for strokes, wish, looks, first in by_layings.drawn(seed, many, most=4):
            places = [0, 1, 2, 3, 4, LAST - 1, LAST]
            second = by_layings.drawn_laying(chance, places, ["d", "e"], len(strokes) + len(first), 4)
            yield strokes, wish, looks, first, second

    def test_of_some(self):
        book = Book([RED, BLUE])
        self.assert_same(behind(book, ((1, 0, 1, "a"),), ((1, 0, 0, "b"), (2, 5, 5, "c"), (3, 7, 7, "d"))),
                         ((1, 0, 0, "b"), (1, 0, 1, "a"), (1, 5, 5, "c"), (2, 7, 7, "d")))
        self.assert_same(behind(book, ((0, 0, 1, "a"), (2, 0, 1, "b")), ((0, 2, 2, "c"), (1, 3, 3, "d"))),
                         ((0, 2, 2, "c"), (0, 0, 1, "a"), (0, 3, 3, "d"), (2, 0, 1, "b")))
        self.assert_same(behind(Book(), ((0, 0, 1, "a"),), ((0, 2, 2, "c"), (1, 3, 3, "d"))),
                         ((0, 2, 2, "c"), (0, 0, 1, "a"), (0, 3, 3, "d")))

    def test_of_none(self):
        book = Book([RED])
        laying = ((0, 0, 1, "a"), (1, 0, 1, "b"))
        self.assert_same(behind(book, (), ()), ())
        self.assert_same(behind(book, laying, ()), laying)
        self.assert_same(behind(book, (), laying), laying)

    def test_it_leads_to_the_same_book(self):
        for strokes, _, _, first, second in self.drawn_pairs(18, 800):
            book = Book(strokes)
            told = behind(book, first, second)
            last = by_layings.laid([stroke for stroke, _ in by_layings.laid(strokes, first)], second)
            self.assertIs(is_laying(book, told), True)
            self.assertEqual(laid(book, told), Book([stroke for stroke, _ in last]), (strokes, first, second))
            self.assertEqual(sorted(part[1:] for part in told), sorted(part[1:] for part in first + second))
            self.assertEqual(book, Book(strokes))

    def test_the_elder_ones_ahead(self):
        # Strokes alike don't hide which ones are the elder: the slots tell it by their order alone.
        for many in range(3):
            book = Book([RED] * many)
            for first in by_layings.all_layings(many + 1, [(0, 9)], ["red"], 2):
                for second in by_layings.all_layings(many + 3, [(0, 9)], ["red"], 1):
                    marks = [number is not None for _, number in by_layings.laid([RED] * many, first)]
                    marks.insert(second[0][0], False)
                    slots = [sum(marks[:at]) for at, mark in enumerate(marks) if not mark]
                    self.assert_same([part[0] for part in behind(book, first, second)], slots, (many, first, second))

    def test_looks_are_led_over_alike(self):
        for strokes, _, looks, first, second in self.drawn_pairs(19, 400):
            book = Book(strokes)
            middle = laid(book, first)
            told = behind(book, first, second)
            for look in looks:
                seen = shown(laid(middle, second), led_over(middle, led_over(book, look, first), second))
                self.assert_same(shown(laid(book, told), led_over(book, look, told)), seen, (strokes, look, first, second))

    def test_no_laying(self):
        book = Book([RED])
        good = ((1, 0, 1, "a"),)
        for thing in things.NO_LAYINGS + [((2, 0, 1, "a"),)]:
            self.assert_refused(BadLaying, behind, book, thing, ())
            self.assert_refused(BadLaying, behind, book, (), thing)
        for thing in things.NO_LAYINGS[::3] + [((3, 0, 1, "a"),)]:
            self.assert_refused(BadLaying, behind, book, good, thing)
            self.assert_refused(BadLaying, behind, book, thing, thing)
        self.assertEqual(book, Book([RED]))

    def test_the_second_is_one_of_the_laid_book(self):
        book = Book([RED])
        second = ((2, 0, 1, "b"),)
        self.assert_refused(BadLaying, behind, book, (), second)
        self.assert_refused(BadLaying, behind, book, second, ())
        self.assert_same(behind(book, ((0, 0, 1, "a"),), second), ((0, 0, 1, "a"), (1, 0, 1, "b")))

    def test_by_the_names(self):
        self.assert_same(behind(second=((2, 5, 5, "b"),), first=((0, 0, 1, "a"),), book=Book([RED])),
                         ((0, 0, 1, "a"), (1, 5, 5, "b")))


class CutBack(LayingsCase):
    def test_of_some(self):
        book = Book([RED, BLUE])
        self.assert_same(cut_back(book, ()), ())
        self.assert_same(cut_back(book, ((2, 0, 12, "a"),)), ((2, 0, 12, "a"),))
        self.assert_same(cut_back(book, ((1, 0, 12, "a"),)), ((1, 0, 12, "a"),))
        self.assert_same(cut_back(book, ((1, 4, 12, "a"),)), ((1, 6, 12, "a"),))
        self.assert_same(cut_back(book, ((0, 4, 12, "a"),)), ((0, 10, 12, "a"),))

    def test_those_seen_nowhere_are_left_out(self):
        book = Book([RED, BLUE])
        self.assert_same(cut_back(book, ((0, 4, 7, "a"), (1, 4, 5, "b"), (2, 5, 6, "c"), (2, 4, 6, "d"))), ((2, 4, 6, "d"),))
        self.assert_same(cut_back(book, ((0, 0, 9, "a"), (1, 3, 5, "b"))), ())

    def test_within_one_another_and_apart(self):
        book = Book([RED, BLUE])
        self.assert_same(cut_back(book, ((2, 0, 6, "a"), (2, 4, 9, "b"))), ((2, 0, 3, "a"), (2, 4, 9, "b")))
        self.assert_same(cut_back(book, ((2, 0, 9, "a"), (2, 4, 5, "b"))), ((2, 0, 9, "a"), (2, 4, 5, "b")))

    def test_place_by_place(self):
        for strokes, _, _, laying in by_layings.drawn(20, 1500, most=5):
            after = by_layings.laid(strokes, laying)
            painted = [stroke for stroke, _ in after]
            put_in = [at for at, (_, number) in enumerate(after) if number is None]
            # The places of the drawn walls, one by one.
            places = [place for low in (0, LAST - 4) for place in range(low, low + 5)]
            wanted = []
            for at, (slot, _, _, colour) in zip(put_in, laying):
                seen = [place for place in places if by_place.giver_at(painted, place) == at]
                if seen:
                    wanted.append((slot, seen[0], seen[-1], colour))
            self.assert_same(cut_back(Book(strokes), laying), tuple(wanted), (strokes, laying))

    def test_what_the_document_says_of_it(self):
        right = 0
        for strokes, wish, looks, laying in by_layings.drawn(21, 4000, most=3):
            book = Book(strokes)
            told = cut_back(book, laying)
            self.assertEqual(colours(laid(book, told)), colours(laid(book, laying)))
            for (_, low, high, _), (_, begin, end, _) in itertools.combinations(told, 2):
                self.assertTrue(end < low or high < begin or low <= begin <= end <= high, (strokes, laying))
            prices = {"a": 3, "b": 5, "c": 7}
            self.assertLessEqual(price_of(book, told, prices), price_of(book, laying, prices))
            if is_right(book, wish, laying, looks=looks):
                right += 1
                self.assertIs(is_right(book, wish, told, looks=looks), True, (strokes, wish, looks, laying))
        self.assertGreater(right, 200)

    def test_twice_is_as_once(self):
        for strokes, _, _, laying in by_layings.drawn(22, 300, most=5):
            told = cut_back(Book(strokes), laying)
            self.assert_same(cut_back(Book(strokes), told), told)

    def test_no_laying(self):
        book = Book([RED])
        for thing in things.NO_LAYINGS + [((2, 0, 1, "a"),)]:
            self.assert_refused(BadLaying, cut_back, book, thing)
        self.assertEqual(book, Book([RED]))

    def test_by_the_names(self):
        self.assert_same(cut_back(laying=((0, 5, 12, "a"),), book=Book([RED])), ((0, 10, 12, "a"),))

    def test_behind_a_put_and_a_take(self):
        book = Book([RED])
        laying = ((0, 5, 12, "a"),)
        cut_back(book, laying)
        book.put(1, BLUE)
        book.take(0)
        self.assert_same(cut_back(book, laying), ((0, 6, 12, "a"),))
        self.assert_same(hidden(laid(book, laying)), [])
        self.assert_same(picture(book)[1], (3, 5, 0))


if __name__ == "__main__":
    unittest.main()
