"""Runs, the table and least layings: point 15, and what point 3 says of leasts."""

import itertools
import random
import unittest

from pastlay.books import Book
from pastlay.errors import BadLook, BadPrices, BadWish, Full
from pastlay.layings import broken, cut_back, is_laying, is_right, laid, led_over, price_of
from pastlay.least import least, runs, table
from pastlay.looks import shown
from pastlay.seeing import hidden
from tests import by_layings, by_place, cases, things

LAST = things.LAST
RED = (0, 9, "red")
BLUE = (3, 5, "blue")
WIDE = (0, LAST, "green")
ONES = {colour: 1 for colour in ("a", "b", "c", "d", "red", "blue", "green")}


def drawn_prices(chance, colours="abc"):
    return {colour: chance.choice([1, 1, 2, 3, 7, 999]) for colour in colours}


def striped(many):
    """A book and a wish with as many runs: single places that are wished, bare firm places between them."""
    wish = tuple((2 * at, 2 * at, "a") for at in range(12))
    strokes = [(at, at, "b") for at in range(30, 30 + many)]
    return strokes, wish


class LeastCase(cases.Case):
    def assert_table(self, strokes, wish, looks, prices):
        told = table(Book(strokes), wish, prices, looks=looks)
        why = (strokes, wish, looks, prices)
        self.assertIs(type(told), dict)
        wanted = by_layings.Tasks(strokes, wish, looks).table(prices)
        self.assertEqual(told, wanted, why)
        self.assertEqual(sorted(map(repr, told.items())), sorted(map(repr, wanted.items())), why)

    def assert_told(self, strokes, wish, looks, prices):
        """The told laying is right, and has the told price; that is told."""
        book = Book(strokes)
        told = least(book, wish, prices, looks=looks)
        why = (strokes, wish, looks, prices)
        self.assertIs(type(told), tuple)
        price, laying = told
        self.assertIs(type(price), int)
        self.assertIs(is_laying(book, laying), True, why)
        self.assertEqual(by_layings.broken(strokes, wish, laying, looks), [], why)
        self.assertEqual(sum(prices[part[3]] for part in laying), price, why)
        self.assertEqual(book, Book(strokes))
        return price

    def assert_least(self, strokes, wish, looks, prices):
        price = self.assert_told(strokes, wish, looks, prices)
        self.assertEqual(price, by_layings.cheapest(strokes, wish, looks, prices), (strokes, wish, looks, prices))


class Runs(LeastCase):
    def test_of_some(self):
        book = Book([RED, BLUE])
        self.assert_same(runs(Book(), ()), ((0, LAST),))
        self.assert_same(runs(Book([WIDE]), ()), ((0, LAST),))
        self.assert_same(runs(book, ()), ((0, 2), (3, 5), (6, 9), (10, LAST)))
        self.assert_same(runs(book, ((4, 6, "green"),)), ((0, 2), (3, 3), (4, 5), (6, 6), (7, 9), (10, LAST)))
        self.assert_same(runs(Book(), ((0, 0, "a"), (LAST, LAST, None))), ((0, 0), (1, LAST - 1), (LAST, LAST)))
        self.assert_same(runs(Book(), ((0, LAST, "a"),)), ((0, LAST),))

    def test_stretches_side_by_side_are_two(self):
        for first, second in itertools.product(["a", "b", None], repeat=2):
            self.assert_same(runs(Book(), ((0, 4, first), (5, 9, second))), ((0, 4), (5, 9), (10, LAST)))

    def test_looks_part_where_walls_do(self):
        book = Book([RED, BLUE])
        whole = ((0, LAST, "a"),)
        self.assert_same(runs(book, whole, looks=((2, 4, 11),)), ((0, 2), (3, 5), (6, 9), (10, 11), (12, LAST)))
        self.assert_same(runs(book, whole, looks=((2, 7, 11),)), ((0, 2), (3, 5), (6, 6), (7, 9), (10, 11), (12, LAST)))
        self.assert_same(runs(book, whole, looks=((1, 4, 11),)), ((0, 2), (3, 5), (6, 9), (10, 11), (12, LAST)))
        self.assert_same(runs(book, whole, looks=((0, 4, 11),)), ((0, 2), (3, 5), (6, 9), (10, LAST)))
        self.assert_same(runs(book, whole, looks=((2, 0, LAST), (2, 4, 11))), runs(book, whole))

    def test_looks_that_shut_nothing_more(self):
        # All slots that the look shuts are shut already, for the places are firm and bare.
        self.assert_same(runs(Book([RED, BLUE]), ((0, 9, "a"),), looks=((2, 11, 12),)), ((0, 2), (3, 5), (6, 9), (10, LAST)))
        # Places 4 and 5 showed stroke 1 then, so no slot ahead of the look lies over it.
        self.assert_same(runs(Book([RED, BLUE]), ((0, 9, "a"),), looks=((2, 4, 5),)), ((0, 2), (3, 5), (6, 9), (10, LAST)))

    def test_place_by_place(self):
        for strokes, wish, looks, _ in by_layings.drawn(31, 1500, places=7, strokes=5, stretches=6, looks=4):
            self.assert_same(runs(Book(strokes), wish, looks=looks), by_layings.runs(strokes, wish, looks),
                             (strokes, wish, looks))

    def test_large_ones(self):
        chance = random.Random(32)
        for strokes in by_place.large_books():
            strokes = strokes[:20]
            places = sorted({place for low, high, _ in strokes for place in (low, high)})
            wish = by_layings.drawn_wish(chance, places, ["a", None])
            looks = tuple((chance.randint(0, len(strokes)),) + by_layings.drawn_stretch(chance, places) for _ in range(6))
            told = runs(Book(strokes), wish, looks=looks)
            self.assert_same(told, by_layings.runs(strokes, wish, looks), (strokes, wish, looks))

    def test_more_than_forty(self):
        for many in (10, 15, 16, 17, 30):
            strokes, wish = striped(many)
            self.assertEqual(len(runs(Book(strokes), wish)), 25 + many)
        self.assertEqual(len(runs(Book([(2 * at, 2 * at, "a") for at in range(60)]), ())), 120)

    def test_refused(self):
        book = Book([RED])
        for looks in things.NO_LOOKS_AT_ALL + [((2, 0, 1),), ((0, 0, 1),) * 21]:
            self.assert_refused(BadLook, runs, book, (), looks=looks)
            self.assert_refused(BadLook, runs, book, None, looks=looks)
        for wish in things.NO_WISHES:
            self.assert_refused(BadWish, runs, book, wish)
        self.assertEqual(book, Book([RED]))

    def test_by_the_names(self):
        self.assert_same(runs(looks=((1, 12, 15),), wish=((10, LAST, "a"),), book=Book([RED])),
                         ((0, 9), (10, 11), (12, 15), (16, LAST)))
        with self.assertRaises(TypeError):
            runs(Book(), (), ())

    def test_behind_a_take_and_a_put(self):
        book = Book([RED, BLUE])
        self.assert_same(len(runs(book, ())), 4)
        book.take(0)
        book.put(1, (5, 7, "a"))
        self.assert_same(runs(book, ()), ((0, 2), (3, 4), (5, 7), (8, LAST)))


class Table(LeastCase):
    def test_nothing_wrong(self):
        book = Book([RED, BLUE])
        self.assert_same(table(Book(), (), {}), {(0, 1, None): 0})
        self.assert_same(table(book, (), {}), {(0, 4, None): 0})
        self.assert_same(table(book, ((0, LAST, None),), {}), {(0, 4, None): 0})
        self.assert_same(table(book, ((3, 5, "blue"),), {"blue": 3}), {(0, 4, None): 0})

    def test_one_wrong(self):
        self.assertEqual(table(Book(), ((0, LAST, "a"),), {"a": 5}),
                         {(0, 1, None): 5, (1, 1, (0, "a")): 0, (1, 1, None): 0})

    def test_tasks_of_no_run(self):
        told = table(Book([RED]), ((3, 5, "a"),), {"a": 5})
        self.assertEqual(told, {(0, 4, None): 5, (2, 2, (1, "a")): 0, (2, 4, None): 0})

    def test_strokes_within_others(self):
        told = table(Book(), ((0, 1, "a"), (2, 3, "b"), (4, 5, "a")), {"a": 5, "b": 2})
        self.assertEqual(told[(0, 4, None)], 7)
        self.assertEqual(told[(1, 3, (0, "a"))], 2)
        self.assertEqual(told[(1, 1, (0, "a"))], 0)
        self.assertNotIn((1, 4, (0, "a")), told)

    def test_word_by_word(self):
        chance = random.Random(33)
        for strokes, wish, looks, _ in by_layings.drawn(34, 1500, places=6, stretches=6):
            self.assert_table(strokes, wish, looks, drawn_prices(chance))

    def test_larger_ones(self):
        chance = random.Random(35)
        for strokes, wish, looks, _ in by_layings.drawn(36, 40, places=12, strokes=8, stretches=8):
            self.assert_table(strokes, wish, looks, drawn_prices(chance))

    def test_each_least_against_its_ways(self):
        chance = random.Random(37)
        for strokes, wish, looks, _ in by_layings.drawn(38, 300, places=8, strokes=5, stretches=6):
            prices = drawn_prices(chance)
            told = table(Book(strokes), wish, prices, looks=looks)
            tasks = by_layings.Tasks(strokes, wish, looks)
            led_to = {tasks.whole}
            for task, number in told.items():
                ways = tasks.ways(task)
                self.assertEqual(number, min([prices[tasks.wants(p)] + told[inner] + told[onward]
                                              for p, _, _, inner, onward in ways], default=0))
                led_to |= {other for way in ways for other in way[3:]}
            self.assertEqual(set(told), led_to)

    def test_forty_and_forty_one(self):
        strokes, wish = striped(15)
        told = table(Book(strokes), wish, ONES)
        self.assertEqual(told[(0, 40, None)], 12)
        self.assertEqual(told, by_layings.Tasks(strokes, wish, ()).table(ONES))
        for many in (16, 17, 30):
            strokes, wish = striped(many)
            self.assert_refused(Full, table, Book(strokes), wish, ONES)

    def test_told_dicts_are_the_askers_own(self):
        book = Book([RED])
        told = table(book, ((3, 5, "a"),), {"a": 5})
        wanted = dict(told)
        told.clear()
        again = table(book, ((3, 5, "a"),), {"a": 5})
        self.assertEqual(again, wanted)
        again[(0, 4, None)] = 0
        self.assert_same(least(book, ((3, 5, "a"),), {"a": 5}), (5, ((1, 3, 5, "a"),)))

    def test_by_the_names(self):
        self.assertEqual(table(looks=((0, 0, 1),), prices={"a": 5}, wish=((0, LAST, "a"),), book=Book()),
                         {(0, 1, None): 5, (1, 1, (0, "a")): 0, (1, 1, None): 0})
        with self.assertRaises(TypeError):
            table(Book(), (), {}, ())


class Least(LeastCase):
    def test_nothing_wrong(self):
        for strokes in ([], [RED], [RED, BLUE], [BLUE, RED]):
            self.assert_same(least(Book(strokes), (), {}), (0, ()))
            self.assert_same(least(Book(strokes), ((0, LAST, None),), ONES), (0, ()))
        self.assert_same(least(Book([RED]), ((2, 3, "red"), (5, 6, "red")), ONES), (0, ()))

    def test_one_stroke(self):
        self.assert_same(least(Book(), ((0, LAST, "a"),), {"a": 7}), (7, ((0, 0, LAST, "a"),)))
        self.assert_same(least(Book([RED]), ((3, 5, "a"),), {"a": 999}), (999, ((1, 3, 5, "a"),)))

    def test_beneath_what_stands(self):
        # A stroke beneath the blue one shows on both sides of it; on top two are needed.
        book = Book([RED, BLUE])
        wish = ((2, 2, "a"), (6, 6, "a"))
        self.assert_same(least(book, wish, {"a": 4}), (4, ((1, 2, 6, "a"),)))
        self.assert_same(least(Book([(0, 9, "red")]), wish, {"a": 4})[0], 8)

    def test_looks_shut_the_past(self):
        book = Book([RED, BLUE])
        wish = ((2, 2, "a"), (6, 6, "a"))
        self.assert_same(least(book, wish, {"a": 4}, looks=((2, 6, 6),))[0], 8)
        self.assert_same(least(book, wish, {"a": 4}, looks=((2, 3, 5),))[0], 4)
        self.assert_same(least(book, wish, {"a": 4}, looks=((1, 0, 9),))[0], 4)
        self.assert_same(least(book, wish, {"a": 4}, looks=((2, 0, LAST),))[0], 8)

    def test_prices_that_part(self):
        wish = ((0, 1, "a"), (2, 3, "b"), (4, 5, "a"), (6, 7, "b"))
        self.assert_same(least(Book(), wish, {"a": 1, "b": 1})[0], 3)
        self.assert_same(least(Book(), wish, {"a": 1, "b": 999})[0], 1001)
        self.assert_same(least(Book(), wish, {"a": 999, "b": 1})[0], 1001)

    def test_one_within_another(self):
        wish = tuple((at, at, colour) for at, colour in enumerate("abcba"))
        self.assert_same(least(Book(), wish, ONES)[0], 3)
        price, laying = least(Book(), wish, ONES)
        self.assertEqual(sorted(part[1:] for part in laying), [(0, 4, "a"), (1, 3, "b"), (2, 2, "c")])

    def test_against_a_search(self):
        chance = random.Random(41)
        for strokes, wish, looks, _ in by_layings.drawn(42, 1200, places=4):
            self.assert_least(strokes, wish, looks, drawn_prices(chance))

    def test_against_a_search_without_looks(self):
        chance = random.Random(43)
        for strokes, wish, _, _ in by_layings.drawn(44, 150, places=5, stretches=5):
            self.assert_least(strokes, wish, (), drawn_prices(chance))

    def test_against_a_search_of_longer_ones(self):
        chance = random.Random(45)
        for strokes, wish, looks, _ in by_layings.drawn(46, 60, places=6, strokes=5, stretches=6, colours=("a", "b")):
            self.assert_least(strokes, wish, looks, drawn_prices(chance))

    def test_against_all_layings_of_few_strokes(self):
        chance = random.Random(47)
        stretches = list(itertools.combinations_with_replacement(range(3), 2)) + [(0, LAST), (2, LAST)]
        for _ in range(60):
            strokes = [by_layings.drawn_stretch(chance, [0, 1, 2]) + (chance.choice("ab"),)
                       for _ in range(chance.randint(0, 2))]
            wish = by_layings.drawn_wish(chance, [0, 1, 2], ["a", "b", None], 3)
            looks = by_layings.drawn_looks(chance, [0, 1, 2], len(strokes), 1)
            price = self.assert_told(strokes, wish, looks, ONES)
            for many in range(min(price, 3)):
                for laying in by_layings.all_layings(len(strokes) + 1, stretches, ["a", "b"], many):
                    self.assertNotEqual(by_layings.broken(strokes, wish, laying, looks), [], (strokes, wish, looks, laying))

    def test_no_more_than_any_right_laying(self):
        found = 0
        chance = random.Random(48)
        for strokes, wish, looks, laying in by_layings.drawn(49, 3000, most=4):
            book = Book(strokes)
            prices = drawn_prices(chance)
            if is_right(book, wish, laying, looks=looks):
                found += 1
                self.assertLessEqual(least(book, wish, prices, looks=looks)[0], price_of(book, laying, prices))
        self.assertGreater(found, 150)

    def test_is_the_tables(self):
        chance = random.Random(50)
        for strokes, wish, looks, _ in by_layings.drawn(51, 200, places=8, strokes=6, stretches=6):
            prices = drawn_prices(chance)
            book = Book(strokes)
            many = len(runs(book, wish, looks=looks))
            self.assertEqual(self.assert_told(strokes, wish, looks, prices),
                             table(book, wish, prices, looks=looks)[(0, many, None)])

    def test_the_looks_show_what_they_showed(self):
        for strokes, wish, looks, _ in by_layings.drawn(52, 200):
            book = Book(strokes)
            _, laying = least(book, wish, ONES, looks=looks)
            self.assert_same(broken(book, wish, laying, looks=looks), [])
            for look in looks:
                self.assertEqual(
                    [(low, high, None if number is None else strokes[number]) for low, high, number in shown(book, look)],
                    [(low, high, None if number is None else laid(book, laying).strokes()[number])
                     for low, high, number in shown(laid(book, laying), led_over(book, look, laying))])

    def test_forty_runs(self):
        chance = random.Random(53)
        strokes = [(at, at, "ab"[at % 2]) for at in range(34)] + [(0, 0, "c")] * 26
        cuts = sorted(chance.sample(range(1, 35), 11))
        wish = tuple((low, high - 1, colour) for low, high, colour in zip([0] + cuts, cuts + [LAST + 1], "defg" * 3))
        looks = tuple((chance.randint(0, 60),) + by_layings.drawn_stretch(chance, list(range(36))) for _ in range(3))
        prices = {colour: chance.randint(1, 999) for colour in "defg"}
        many = len(runs(Book(strokes), wish, looks=looks))
        self.assertLessEqual(35, many)
        self.assertLessEqual(many, 40)
        price = self.assert_told(strokes, wish, looks, prices)
        self.assertEqual(price, table(Book(strokes), wish, prices, looks=looks)[(0, many, None)])

    def test_full(self):
        for many in (0, 14, 15, 16, 30):
            strokes, wish = striped(many)
            if many <= 15:
                self.assert_same(self.assert_told(strokes, wish, (), ONES), 12)
            else:
                self.assert_refused(Full, least, Book(strokes), wish, ONES)

    def test_by_the_names(self):
        self.assert_same(least(looks=((2, 6, 6),), prices={"a": 4}, wish=((2, 2, "a"), (6, 6, "a")), book=Book([RED, BLUE])),
                         least(Book([RED, BLUE]), ((2, 2, "a"), (6, 6, "a")), {"a": 4}, looks=((2, 6, 6),)))
        with self.assertRaises(TypeError):
            least(Book(), (), {}, ())


class Whole(LeastCase):
    """What point 3 says of leasts."""

    def test_all_at_once_no_more_than_one_by_one(self):
        chance = random.Random(61)
        for strokes, wish, looks, _ in by_layings.drawn(62, 250, places=6, stretches=6):
            prices = drawn_prices(chance)
            kinds = [chance.randint(0, 1) for _ in wish]
            halves = [tuple(part for part, kind in zip(wish, kinds) if kind == half) for half in (0, 1)]
            at_once = least(Book(strokes), wish, prices, looks=looks)[0]
            for first, second in (halves, halves[::-1]):
                book = Book(strokes)
                price, laying = least(book, first, prices, looks=looks)
                led = tuple(led_over(book, look, laying) for look in looks)
                self.assertLessEqual(at_once, price + least(laid(book, laying), second, prices, looks=led)[0])

    def test_layings_put_in_together(self):
        chance = random.Random(63)
        for strokes, wish, looks, _ in by_layings.drawn(64, 250, places=6, stretches=6):
            kinds = [chance.randint(0, 1) for _ in wish]
            halves = [tuple(part for part, kind in zip(wish, kinds) if kind == half) for half in (0, 1)]
            book = Book(strokes)
            first, second = [least(book, half, ONES, looks=looks)[1] for half in halves]
            for both in (first + second, second + first):
                together = tuple(sorted(both, key=lambda part: part[0]))
                self.assertIs(is_right(book, wish, together, looks=looks), True, (strokes, wish, looks, together))

    def test_cut_back_it_is_as_cheap(self):
        chance = random.Random(65)
        for strokes, wish, looks, _ in by_layings.drawn(66, 250, places=6, stretches=6):
            prices = drawn_prices(chance)
            book = Book(strokes)
            price, laying = least(book, wish, prices, looks=looks)
            self.assertEqual(price_of(book, cut_back(book, laying), prices), price)
            self.assertIs(is_right(book, wish, cut_back(book, laying), looks=looks), True)

    def test_a_stroke_that_is_seen_nowhere_may_go(self):
        chance = random.Random(67)
        gone = 0
        for strokes, wish, looks, _ in by_layings.drawn(68, 1500, places=6, strokes=6, looks=1):
            book = Book(strokes)
            seen = {number for look in looks for _, _, number in shown(book, look)}
            for number in hidden(book):
                if number in seen:
                    continue
                gone += 1
                prices = drawn_prices(chance)
                price = least(book, wish, prices, looks=looks)[0]
                left = book.copy()
                left.take(number)
                led = tuple((moment - (number < moment), low, high) for moment, low, high in looks)
                self.assertEqual(least(left, wish, prices, looks=led)[0], price, (strokes, wish, looks, number))
        self.assertGreater(gone, 300)

    def test_behind_a_take_and_a_put_with_nothing_asked_between(self):
        strokes = [RED, BLUE, (8, 12, "red")]
        wish = ((2, 2, "a"), (6, 6, "a"), (11, 14, "b"))
        looks = ((2, 1, 3), (3, 0, 20))
        for number, slot in itertools.product(range(3), range(3)):
            book = Book(strokes)
            table(book, wish, ONES, looks=looks)
            least(book, wish, ONES, looks=looks)
            book.take(number)
            book.put(slot, (4, 10, "green"))
            left = strokes[:number] + strokes[number + 1:]
            left = left[:slot] + [(4, 10, "green")] + left[slot:]
            fresh = Book(left)
            self.assertEqual(table(book, wish, ONES, looks=looks), table(fresh, wish, ONES, looks=looks))
            self.assertEqual(least(book, wish, ONES, looks=looks)[0], least(fresh, wish, ONES, looks=looks)[0])
            self.assert_told(left, wish, looks, ONES)
            self.assert_table(left, wish, looks, ONES)
            book.put(0, WIDE)
            self.assertEqual(runs(book, wish, looks=looks), runs(Book([WIDE] + left), wish, looks=looks))


class Refused(LeastCase):
    def test_no_prices_go_ahead_of_all(self):
        book = Book([RED])
        for act in (table, least):
            for prices in things.NO_PRICES:
                self.assert_refused(BadPrices, act, book, None, prices, looks=None)
                self.assert_refused(BadPrices, act, book, (), prices)
                self.assert_refused(BadPrices, act, book, ((0, 1, "red"),), prices)
            strokes, wish = striped(30)
            self.assert_refused(BadPrices, act, Book(strokes), wish, {"a": 0})

    def test_no_looks_go_ahead_of_no_wish(self):
        book = Book([RED])
        for act in (table, least):
            for looks in things.NO_LOOKS_AT_ALL + [((2, 0, 1),), ((0, 0, 1),) * 21]:
                self.assert_refused(BadLook, act, book, None, {}, looks=looks)
                self.assert_refused(BadLook, act, book, ((0, 1, "a"),), {}, looks=looks)
            self.assert_refused(BadLook, act, Book(striped(30)[0]), striped(30)[1], {}, looks=[])

    def test_no_wish(self):
        for act in (table, least):
            for wish in things.NO_WISHES:
                self.assert_refused(BadWish, act, Book([RED]), wish, {})
            for wish in things.NO_WISHES[::9]:
                self.assert_refused(BadWish, act, Book(striped(60)[0]), wish, {})

    def test_full_goes_ahead_of_a_colour_that_lacks(self):
        strokes, wish = striped(16)
        for act in (table, least):
            self.assert_refused(Full, act, Book(strokes), wish, {})
            self.assert_refused(Full, act, Book(strokes), wish, {"b": 1})
            self.assert_refused(BadPrices, act, Book(strokes[:15]), wish, {})
            self.assert_refused(BadPrices, act, Book(strokes[:15]), wish, {"b": 1})
            self.assert_refused(Full, act, Book([(2 * at, 2 * at, "a") for at in range(60)]), (), {})

    def test_looks_count_for_full(self):
        strokes, wish = striped(15)
        # The look parts the places behind the last stroke, of which none is wished: no slot is shut that was not.
        self.assertEqual(len(runs(Book(strokes), wish, looks=((15, 50, 60),))), 40)
        self.assertEqual(least(Book(strokes), wish, ONES, looks=((15, 50, 60),))[0], 12)
        wish = wish[:11] + ((22, 29, "a"),)
        self.assertEqual(len(runs(Book(strokes), wish)), 39)
        self.assertEqual(len(runs(Book(strokes), wish, looks=((15, 24, 26),))), 41)
        for act in (table, least):
            self.assert_refused(Full, act, Book(strokes), wish, ONES, looks=((15, 24, 26),))

    def test_a_colour_that_lacks(self):
        for act in (table, least):
            for strokes in ([], [RED], [WIDE]):
                book = Book(strokes)
                # Also where nothing is wrong.
                for wish in (((0, 1, "red"),), ((0, 1, "green"),), ((0, 1, "a"), (2, 3, "b")), ((0, 1, "b"), (2, 3, "a")),
                             ((0, 0, None), (1, 1, "b"), (2, 2, None))):
                    for prices in ({}, {"a": 1}, {"aa": 1, "bb": 999}):
                        self.assert_refused(BadPrices, act, book, wish, prices)
                self.assertEqual(book, Book(strokes))

    def test_none_needs_no_price(self):
        self.assert_same(table(Book(), ((0, LAST, None),), {}), {(0, 1, None): 0})
        self.assert_same(least(Book(), ((0, 5, None), (6, 9, "a")), {"a": 2}), (2, ((0, 6, 9, "a"),)))

    def test_colours_of_the_book_need_no_price(self):
        self.assert_same(least(Book([RED, BLUE]), ((3, 5, "a"),), {"a": 2})[0], 2)

    def test_what_is_handed_in_is_not_changed(self):
        book = Book([RED])
        prices = {"a": 2, "b": 3}
        for act in (table, least):
            act(book, ((3, 5, "a"),), prices, looks=((1, 0, 2),))
            self.assertEqual(prices, {"a": 2, "b": 3})
            self.assertEqual(book, Book([RED]))


if __name__ == "__main__":
    unittest.main()
