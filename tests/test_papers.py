"""Papers: point 16, and what point 15 says of them."""

import random
import unittest

from pastlay.books import Book
from pastlay.errors import BadLook, BadPrices, BadWish, Full
from pastlay.least import least, runs, table
from pastlay.papers import is_paper, paper
from tests import by_layings, cases, things
from tests.test_least import ONES, drawn_prices, striped

LAST = things.LAST
RED = (0, 9, "red")
BLUE = (3, 5, "blue")
ONE = ((3, 5, "a"),)
# Beneath a stroke over the first and the last of these the middle one is wrong.
NEST = ((0, 1, "a"), (2, 3, "b"), (4, 5, "a"))


def is_right_paper(strokes, wish, looks, prices, thing, bar):
    """Whether this paper, right by its form, shows that no right laying is cheaper, word by word."""
    tasks = by_layings.Tasks(strokes, wish, looks)
    numbers = dict(thing)
    if tasks.whole not in numbers or numbers[tasks.whole] < bar:
        return False
    for task, number in thing:
        if tasks.first_wrong(task) is None:
            if number != 0:
                return False
        elif any(number > prices[tasks.wants(p)] + numbers.get(inner, 0) + numbers.get(onward, 0)
                 for p, _, _, inner, onward in tasks.ways(task)):
            return False
    return True


class Drawn:
    """A drawn wall with a wish, looks and prices, its paper and its least price."""

    def __init__(self, strokes, wish, looks, prices):
        self.strokes = strokes
        self.given = (Book(strokes), wish, prices)
        self.looks = looks
        self.told = paper(*self.given, looks=looks)
        self.price = least(*self.given, looks=looks)[0]

    def shows(self, thing, bar):
        return is_right_paper(self.strokes, self.given[1], self.looks, self.given[2], thing, bar)


def drawn(chance, many, most=None, **named):
    """Drawn walls; where a most is told no price is above it."""
    for strokes, wish, looks, _ in by_layings.drawn(chance.randrange(999), many, **named):
        prices = {colour: chance.randint(1, most) for colour in "abc"} if most else drawn_prices(chance)
        yield Drawn(strokes, wish, looks, prices)


class PapersCase(cases.Case):
    def assert_paper(self, book, wish, prices, thing, bar, answer, looks=()):
        if is_paper(book, wish, prices, thing, bar, looks=looks) is not answer:
            self.fail(f"is_paper of {ascii(thing)[:300]} with {bar}, {book!r}, {wish}, {looks} is not {answer}")


class Paper(PapersCase):
    def test_the_tables_tasks(self):
        for one in drawn(random.Random(81), 400, places=7, strokes=5, stretches=6):
            self.assertIs(type(one.told), list)
            self.assertEqual({type(entry) for entry in one.told}, {tuple})
            wanted = table(*one.given, looks=one.looks)
            self.assertEqual(len(one.told), len(wanted))
            self.assertEqual(dict(one.told), wanted)

    def test_nothing_wrong(self):
        self.assert_same(paper(Book(), (), {}), [((0, 1, None), 0)])
        self.assert_same(paper(Book([RED]), ((0, 9, "red"),), {"red": 5}), [((0, 2, None), 0)])

    def test_told_lists_are_the_askers_own(self):
        book = Book([RED])
        told = paper(book, ONE, ONES)
        told.clear()
        self.assertEqual(len(paper(book, ONE, ONES)), 3)
        self.assert_paper(book, ONE, ONES, paper(book, ONE, ONES), 1, True)

    def test_it_shows_the_least_price(self):
        chance = random.Random(83)
        for one in drawn(chance, 400, places=7, strokes=5, stretches=6):
            for bar in (one.price, one.price - 1, 0, -1, -things.FORTY):
                self.assert_paper(*one.given, one.told, bar, True, one.looks)
            for bar in (one.price + 1, one.price + 999, things.FORTY):
                self.assert_paper(*one.given, one.told, bar, False, one.looks)
            chance.shuffle(one.told)
            self.assert_paper(*one.given, one.told, one.price, True, one.looks)

    def test_by_the_names(self):
        self.assert_same(paper(looks=((0, 0, 1),), prices={}, wish=(), book=Book()), [((0, 1, None), 0)])
        with self.assertRaises(TypeError):
            paper(Book(), (), {}, ())

    def test_forty_and_forty_one(self):
        strokes, wish = striped(15)
        book = Book(strokes)
        self.assert_paper(book, wish, ONES, paper(book, wish, ONES), 12, True)
        for many in (16, 17, 30):
            strokes, wish = striped(many)
            self.assert_refused(Full, paper, Book(strokes), wish, ONES)
            self.assert_refused(Full, is_paper, Book(strokes), wish, ONES, [], 0)
            self.assert_refused(Full, is_paper, Book(strokes), wish, {}, None, None)


class IsPaper(PapersCase):
    def assert_as_shown(self, one, thing, bar):
        """Whether it is a paper is told as the document's words tell it, which is told."""
        wanted = one.shows(thing, bar)
        self.assert_paper(*one.given, thing, bar, wanted, one.looks)
        return wanted

    def test_each_number_more_or_less(self):
        for one in drawn(random.Random(85), 60, places=6, strokes=3, stretches=5):
            for at, (task, number) in enumerate(one.told):
                for other in {number - 1, number + 1, 0, number // 2} - {-1}:
                    changed = one.told[:at] + [(task, other)] + one.told[at + 1:]
                    self.assert_as_shown(one, changed, 0)
                    self.assert_as_shown(one, changed, one.price)
                self.assert_paper(*one.given, one.told[:at] + [(task, -1)] + one.told[at + 1:], 0, False, one.looks)

    def test_each_entry_left_out(self):
        for one in drawn(random.Random(87), 80, places=6, strokes=3, stretches=5):
            for at in range(len(one.told)):
                self.assert_as_shown(one, one.told[:at] + one.told[at + 1:], one.price)
            whole = (0, len(runs(*one.given[:2], looks=one.looks)), None)
            kept = [entry for entry in one.told if entry[1] or entry[0] == whole]
            self.assert_paper(*one.given, kept, one.price, True, one.looks)

    def test_drawn_numbers(self):
        chance = random.Random(89)
        right = 0
        for one in drawn(chance, 600, 3, places=6, strokes=3, stretches=5):
            some = [(task, max(0, number - chance.randint(0, 2))) for task, number in one.told if chance.random() < 0.95]
            right += self.assert_as_shown(one, some, 1)
        self.assertGreater(right, 30)

    def test_no_right_laying_is_cheaper_than_what_is_shown(self):
        chance = random.Random(91)
        for one in drawn(chance, 300, 3, places=6, strokes=3, stretches=5):
            some = [(task, max(0, number + chance.choice([-1, 0, 0, 0, 1]))) for task, number in one.told]
            self.assert_paper(*one.given, some, one.price + 1, False, one.looks)

    def test_one_twice(self):
        book = Book([RED])
        told = paper(book, ONE, ONES)
        for entry in told:
            self.assert_paper(book, ONE, ONES, told + [entry], 1, False)
            self.assert_paper(book, ONE, ONES, [entry] + told, 0, False)
            self.assert_paper(book, ONE, ONES, told + [(entry[0], 0)], 0, False)

    def test_the_whole_task_stands_in_it(self):
        book = Book([RED])
        self.assert_paper(book, ONE, ONES, [], 0, False)
        self.assert_paper(book, ONE, ONES, [], -5, False)
        self.assert_paper(book, ONE, ONES, [((2, 4, None), 0)], 0, False)
        self.assert_paper(book, ONE, ONES, [((0, 4, None), 0)], 0, True)
        self.assert_paper(book, ONE, ONES, [((0, 4, None), 0)], 1, False)
        self.assert_paper(book, ONE, ONES, [((0, 4, None), 1)], 1, True)
        self.assert_paper(book, ONE, ONES, [((0, 4, None), 2)], 1, False)
        self.assert_paper(book, ONE, ONES, [((0, 3, None), 1)], 1, False)
        self.assert_paper(Book(), (), {}, [((0, 1, None), 0)], 0, True)
        self.assert_paper(Book(), (), {}, [((0, 1, None), 0)], 1, False)
        self.assert_paper(Book(), (), {}, [((0, 1, None), 1)], 1, False)

    def test_tasks_that_nothing_leads_to(self):
        book = Book([RED])
        told = paper(book, ONE, ONES)
        for task in ((0, 0, None), (0, 0, (0, "red")), (4, 4, (1, "zzzzzzzz")), (0, 1, None), (2, 3, (1, "b")), (2, 4, (0, "a"))):
            self.assert_paper(book, ONE, ONES, told + [(task, 0)], 1, True)
            self.assert_paper(book, ONE, ONES, told + [(task, 1)], 1, False)
        # The wished run is number 1; these tasks have a wrong run, whatever leads to them.
        for task in ((1, 2, None), (1, 2, (0, "a")), (0, 4, (1, "b")), (1, 4, (1, "red"))):
            self.assert_paper(book, ONE, ONES, told + [(task, 0)], 1, True)
            self.assert_paper(book, ONE, ONES, told + [(task, 1)], 1, True)
            self.assert_paper(book, ONE, ONES, told + [(task, 2)], 1, False)
        # Over a stroke of the wished colour it is not wrong.
        self.assert_paper(book, ONE, ONES, told + [((1, 2, (1, "a")), 0)], 1, True)
        self.assert_paper(book, ONE, ONES, told + [((1, 2, (1, "a")), 1)], 1, False)

    def test_a_task_that_lacks_counts_0(self):
        prices = {"a": 5, "b": 2}
        whole = (0, 4, None)
        self.assert_paper(Book(), NEST, prices, [(whole, 5)], 5, True)
        self.assert_paper(Book(), NEST, prices, [(whole, 6)], 5, False)
        self.assert_paper(Book(), NEST, prices, [(whole, 7), ((1, 3, (0, "a")), 2)], 7, False)
        self.assert_paper(Book(), NEST, prices, paper(Book(), NEST, prices), 7, True)
        self.assert_paper(Book(), NEST, prices, paper(Book(), NEST, prices), 8, False)

    def test_tasks_of_other_forms(self):
        book = Book([RED])
        told = paper(book, ONE, ONES)
        wrong_tasks = [
            (-1, 4, None), (0, 5, None), (3, 2, None), (5, 5, None), (0, 4, (2, "a")), (0, 4, (-1, "a")), (0, 4, (1, "A")),
            (0, 4, (1, "")), (0, 4, (1, None)), (0, 4, (None, "a")), (0, 4, ("a", 1)), (0, 4, (1, "a", 0)), (0, 4, (1,)),
            (0, 4, ()), (0, 4, [1, "a"]), (0, 4, "a"), (0, 4, 1), (0, 4, 0), (0, 4, False), (0, 4, (True, "a")), (False, 4, None),
            (True, 4, None), (0, True, None), (0, 4), (0, 4, None, None), [0, 4, None], "04n", {0: 0}, None, 0, (),
            ((0, 4), None), ("0", 4, None), (0, "4", None), (None, 4, None), (0, None, None), (things.FORTY, 4, None),
            (0, things.FORTY, None), (0, 4, (things.FORTY, "a")), (-things.FORTY, 4, None), (0, 4, (1, ["a"])), ([0], 4, None),
        ]
        for task in wrong_tasks:
            self.assert_paper(book, ONE, ONES, told + [(task, 0)], 1, False)
            self.assert_paper(book, ONE, ONES, [(task, 0)] + told, 0, False)
        for thing in things.ANYTHING:
            for task in ((thing, 4, None), (0, thing, None), (0, 4, (thing, "a")), (0, 4, (1, thing))):
                self.assert_paper(book, ONE, ONES, told + [(task, 0)], 1, False)
            if thing is not None:
                self.assert_paper(book, ONE, ONES, told + [((0, 4, thing), 0)], 1, False)
            self.assert_paper(book, ONE, ONES, told + [(thing, 0)], 1, False)

    def test_numbers_of_other_forms(self):
        book = Book([RED])
        told = paper(book, ONE, ONES)
        for at, (task, number) in enumerate(told):
            for thing in things.ANYTHING:
                if thing not in (things.FORTY, LAST + 1, 2 * LAST) and isinstance(thing, (int, str, tuple, list, dict, type(None))):
                    self.assert_paper(book, ONE, ONES, told[:at] + [(task, thing)] + told[at + 1:], 0, False)
            for thing in (LAST + 1, things.FORTY, -1, -things.FORTY, True, "1"):
                self.assert_paper(book, ONE, ONES, told[:at] + [(task, thing)] + told[at + 1:], 0, False)
            self.assert_paper(book, ONE, ONES, told[:at] + [(task, bool(number))] + told[at + 1:], 0, False)

    def test_entries_of_other_forms(self):
        book = Book([RED])
        told = paper(book, ONE, ONES)
        whole = (0, 4, None)
        for entry in things.ANYTHING + [(), (whole,), (whole, 1, 1), [whole, 1], (1, whole), whole, "x", {whole: 1}]:
            self.assert_paper(book, ONE, ONES, told + [entry], 1, False)
            self.assert_paper(book, ONE, ONES, [entry], 0, False)

    def test_things_that_are_no_papers(self):
        book = Book([RED])
        told = paper(book, ONE, ONES)
        for thing in things.ANYTHING + [tuple(told), dict(told), told[0], [told], [tuple(told)], list(map(list, told)), 1]:
            for bar in (1, 0, -1):
                self.assert_paper(book, ONE, ONES, thing, bar, False)
                self.assert_paper(Book(), (), {}, thing, bar, False)

    def test_bars_that_are_no_numbers(self):
        book = Book([RED])
        told = paper(book, ONE, ONES)
        for bar in things.NO_NUMBERS:
            self.assert_paper(book, ONE, ONES, told, bar, False)

    def test_other_prices(self):
        for one in drawn(random.Random(93), 200, 400, places=6, strokes=4, stretches=5):
            book, wish, prices = one.given
            dearer = {colour: 2 * cost for colour, cost in prices.items()}
            halved = {colour: (cost + 1) // 2 for colour, cost in prices.items()}
            self.assert_paper(book, wish, dearer, one.told, one.price, True, one.looks)
            self.assert_paper(book, wish, dearer, one.told, one.price + 1, False, one.looks)
            if all(cost > 1 for cost in prices.values()):
                self.assert_paper(book, wish, halved, one.told, one.price, one.price == 0, one.looks)

    def test_larger_ones(self):
        chance = random.Random(95)
        for one in drawn(chance, 12, places=10, strokes=7, stretches=8):
            for _ in range(6):
                changed = list(one.told)
                at = chance.randrange(len(changed))
                changed[at] = (changed[at][0], max(0, changed[at][1] + chance.choice([-1, 1, -5])))
                self.assert_as_shown(one, changed, one.price)

    def test_what_is_handed_in_is_not_changed(self):
        book = Book([RED])
        told = paper(book, ONE, ONES)
        kept = list(told)
        prices = {"a": 1}
        self.assert_paper(book, ONE, prices, told, 1, True)
        self.assertEqual((told, prices, book), (kept, {"a": 1}, Book([RED])))

    def test_by_the_names(self):
        self.assertIs(is_paper(bar=0, thing=[((0, 1, None), 0)], looks=((0, 0, 1),), prices={}, wish=(), book=Book()), True)
        self.assertIs(is_paper(bar=1, thing=[((0, 1, None), 0)], looks=((0, 0, 1),), prices={}, wish=(), book=Book()), False)
        with self.assertRaises(TypeError):
            is_paper(Book(), (), {}, [], 0, ())

    def test_behind_a_take_and_a_put(self):
        book = Book([RED])
        told = paper(book, ONE, ONES)
        book.take(0)
        book.put(0, (3, 5, "a"))
        self.assert_paper(book, ONE, ONES, told, 1, False)
        self.assert_same(paper(book, ONE, ONES), [((0, 3, None), 0)])
        book.take(0)
        book.put(0, (0, 9, "b"))
        self.assert_paper(book, ONE, ONES, told, 1, True)


class Refused(PapersCase):
    def asks(self):
        return [paper] + [lambda book, wish, prices, looks=(), thing=thing, bar=bar:
                          is_paper(book, wish, prices, thing, bar, looks=looks)
                          for thing, bar in (([], 0), (None, None), ([((0, 1, None), 0)], 0), ("x", True))]

    def test_which_comes_first(self):
        book = Book([RED])
        strokes, wide = striped(16)
        for ask in self.asks():
            for prices in things.NO_PRICES:
                self.assert_refused(BadPrices, ask, book, None, prices, looks=None)
            self.assert_refused(BadPrices, ask, Book(strokes), wide, {"a": 0})
            for looks in things.NO_LOOKS_AT_ALL[::3] + [((2, 0, 1),), ((0, 0, 1),) * 21]:
                self.assert_refused(BadLook, ask, book, None, {}, looks=looks)
                self.assert_refused(BadLook, ask, Book(strokes), wide, {}, looks=looks + (1,) if isinstance(looks, tuple) else 0)
            for wish in things.NO_WISHES[::3]:
                self.assert_refused(BadWish, ask, book, wish, {})
            self.assert_refused(Full, ask, Book(strokes), wide, {})
            self.assert_refused(Full, ask, Book(strokes), wide, {"b": 1})
            for wish in (((0, 1, "red"),), ((0, 1, "a"), (2, 3, "b")), ((0, 0, None), (1, 1, "b"))):
                self.assert_refused(BadPrices, ask, book, wish, {"a": 1})
            self.assert_refused(BadPrices, ask, Book(strokes[:15]), wide, {})
        self.assertEqual(book, Book([RED]))


if __name__ == "__main__":
    unittest.main()
