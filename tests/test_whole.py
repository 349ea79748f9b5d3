"""The whole program: points 1 to 3, over all that the interface names."""

import copy
import inspect
import random
import unittest

from pastlay import layings, least, looks, papers, seeing, shapes, single, wishes, writing
from pastlay.books import Book
from pastlay.desk import Desk
from pastlay.errors import PastError
from pastlay.house import House
from tests import by_history, by_layings, cases

PRICES = {"a": 2, "b": 3, "c": 1}
STRETCHES = [(3, 5), (0, 1), (6, 9)]


def told_by(act, *given, **named):
    """What is told, or the refusal by its class and field; a book by its strokes."""
    try:
        told = act(*given, **named)
    except PastError as caught:
        return type(caught), getattr(caught, "at", None)
    return told.strokes() if isinstance(told, Book) else told


def asks(book, wish, some, laying):
    """All functions of the interface, with things to hand in: by places, and behind the * by names."""
    one = by_layings.one_colour(wish)
    look = some[0] if some else (len(book), 0, 9)
    second = ((0, 2, 4, "a"), (len(book) + len(laying), 1, 3, "b"))
    shows = told_by(papers.paper, book, wish, PRICES, looks=some)
    return [
        (shapes.is_place, [5], {}), (shapes.is_stretch, [(0, 5)], {}), (shapes.is_colour, ["red"], {}),
        (shapes.is_stroke, [(0, 5, "red")], {}), (shapes.joined, [STRETCHES], {}), (shapes.both, [STRETCHES, [(1, 4)]], {}),
        (shapes.apart, [STRETCHES, [(1, 4)]], {}), (writing.read, [str(book)], {}),
        (seeing.giver, [book, 3], {"moment": len(book) // 2}), (seeing.picture, [book], {"moment": None}),
        (seeing.colours, [book], {"moment": 1}), (seeing.stack, [book, 3], {"moment": None}),
        (seeing.hidden, [book], {"moment": len(book)}), (looks.are_looks, [book, some], {}), (looks.shown, [book, look], {}),
        (wishes.is_wish, [wish], {}), (wishes.firm, [wish], {}), (wishes.wrong, [book, wish], {}),
        (wishes.walls, [book, wish, 1], {"looks": some}), (wishes.gaps, [book, wish, 1], {"looks": some}),
        (layings.is_laying, [book, laying], {}), (layings.are_prices, [PRICES], {}), (layings.laid, [book, laying], {}),
        (layings.numbers, [book, laying], {}), (layings.led_over, [book, look, laying], {}),
        (layings.is_right, [book, wish, laying], {"looks": some}), (layings.broken, [book, wish, laying], {"looks": some}),
        (layings.price_of, [book, laying, PRICES], {}), (layings.behind, [book, laying, second], {}),
        (layings.cut_back, [book, laying], {}), (single.fewest, [book, one], {}), (single.bars, [book, one], {}),
        (single.are_bars, [book, one, (3,)], {}), (least.runs, [book, wish], {"looks": some}),
        (least.table, [book, wish, PRICES], {"looks": some}), (least.least, [book, wish, PRICES], {"looks": some}),
        (papers.paper, [book, wish, PRICES], {"looks": some}),
        (papers.is_paper, [book, wish, PRICES, shows, 1], {"looks": some}),
    ]


class Whole(cases.Case):
    def test_by_the_names_in_any_order(self):
        chance = random.Random(1)
        for strokes, wish, some, laying in by_layings.drawn(2, 150, places=8):
            for act, given, named in asks(Book(strokes), wish, some, laying):
                names = list(inspect.signature(act).parameters)
                handed_in = list(zip(names, given)) + list(named.items())
                chance.shuffle(handed_in)
                self.assert_same(told_by(act, **dict(handed_in)), told_by(act, *given, **named), act.__name__)
                for name in named:
                    self.assertIs(inspect.signature(act).parameters[name].kind, inspect.Parameter.KEYWORD_ONLY)

    def test_what_is_left_out(self):
        for strokes, wish, _, laying in by_layings.drawn(3, 100, places=8):
            for act, given, named in asks(Book(strokes), wish, (), laying):
                for name, default in (("looks", ()), ("moment", None)):
                    if name in named:
                        self.assert_same(told_by(act, *given), told_by(act, *given, **{name: default}), act.__name__)

    def test_behind_puts_and_takes_as_of_a_new_book(self):
        chance = random.Random(4)
        for strokes, _, _, _ in by_layings.drawn(5, 60, places=8):
            book = Book(strokes)
            for _ in range(6):
                kind = chance.randrange(3)
                if kind and len(book):
                    book.take(chance.randrange(len(book)))
                if kind != 1:
                    low, high = by_layings.drawn_stretch(chance, range(8))
                    book.put(chance.randint(0, len(book)), (low, high, chance.choice("abc")))
                wish = by_layings.drawn_wish(chance, list(range(8)), ["a", "b", None], 4)
                some = by_layings.drawn_looks(chance, list(range(8)), len(book))
                laying = by_layings.drawn_laying(chance, list(range(8)), ["a", "b"], len(book))
                fresh = Book(list(book.strokes()))
                for (act, given, named), (_, others, _) in zip(asks(book, wish, some, laying), asks(fresh, wish, some, laying)):
                    self.assert_same(told_by(act, *given, **named), told_by(act, *others, **named), act.__name__)
                self.assertEqual(book, fresh)

    def test_nothing_handed_in_is_changed_and_nothing_told_is_kept(self):
        for strokes, wish, some, laying in by_layings.drawn(6, 100, places=8):
            for act, given, named in asks(Book(strokes), wish, some, laying):
                before = copy.deepcopy([given, named])
                told = told_by(act, *given, **named)
                self.assertEqual([given, named], before, act.__name__)
                wanted = copy.deepcopy(told)
                for thing in [told] + (list(told) if isinstance(told, tuple) else []):
                    if isinstance(thing, (list, dict)):
                        thing.clear()
                self.assert_same(told_by(act, *given, **named), wanted, act.__name__)
                self.assertEqual([given, named], before, act.__name__)

    def test_what_was_handed_in_may_be_changed(self):
        strokes = [(0, 9, "red")]
        book = Book(strokes)
        strokes.append((3, 5, "blue"))
        self.assertEqual(len(book), 1)
        prices = {"a": 2}
        told = least.table(book, ((3, 5, "a"),), prices)
        prices["a"] = 9
        self.assertEqual(told[(0, 4, None)], 2)
        later = layings.laid(book, ())
        book.put(0, (0, 0, "b"))
        self.assertEqual(later, Book([(0, 9, "red")]))

    def test_methods_by_the_names_in_any_order(self):
        for seed in range(12):
            chance = random.Random(seed)
            house, other, desk = House(), House(), Desk()
            for name in by_history.NAMES:
                house.build(name)
                other.build(name=name)
                self.assertEqual(desk.say(row=f"build {name}"), "ok")
            for _ in range(80):
                deed, *given = by_history.drawn_deed(chance)
                handed_in = list(zip(inspect.signature(getattr(other, deed)).parameters, given))
                chance.shuffle(handed_in)
                self.assert_same(told_by(getattr(other, deed), **dict(handed_in)), told_by(getattr(house, deed), *given))
            self.assert_same(other.log_now(), house.log_now())
            for name in by_history.NAMES:
                self.assert_same(told_by(other.book_now, name=name), told_by(house.book_now, name))

    def test_the_promise(self):
        # What is wished is seen, all else stays as it is seen, also by the looks, and none is cheaper by a paper.
        for strokes, wish, some, _ in by_layings.drawn(7, 300, places=8, strokes=6, stretches=6):
            book = Book(strokes)
            price, laying = least.least(book, wish, PRICES, looks=some)
            self.assertEqual(by_layings.broken(strokes, wish, laying, some), [])
            self.assertEqual(layings.price_of(book, laying, PRICES), price)
            shows = papers.paper(book, wish, PRICES, looks=some)
            self.assertIs(papers.is_paper(book, wish, PRICES, shows, price, looks=some), True)
            self.assertIs(papers.is_paper(book, wish, PRICES, shows, price + 1, looks=some), False)


if __name__ == "__main__":
    unittest.main()
