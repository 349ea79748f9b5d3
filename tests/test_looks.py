"""Looks: point 8."""

import itertools
import unittest

from pastlay.books import Book
from pastlay.errors import BadLook
from pastlay.looks import are_looks, shown
from tests import by_place, cases, things

LAST = things.LAST
RED = (0, 9, "red")
BLUE = (3, 5, "blue")
WIDE = (0, LAST, "green")


class LooksCase(cases.Case):
    def assert_looks(self, book, thing, answer):
        if are_looks(book, thing) is not answer:
            self.fail(f"are_looks of {ascii(thing)[:200]} is not {answer}")

    def assert_shown(self, book, strokes, look):
        moment, low, high = look
        wanted = by_place.entries(strokes[:moment], by_place.giver_at, low, high)
        self.assert_same(shown(book, look), wanted, (strokes, look))


class AreLooks(LooksCase):
    def test_none(self):
        self.assert_looks(Book(), (), True)
        self.assert_looks(Book([RED, BLUE]), (), True)

    def test_one(self):
        for low, high in things.STRETCHES:
            for moment in range(3):
                self.assert_looks(Book([RED, BLUE]), ((moment, low, high),), True)
            self.assert_looks(Book(), ((0, low, high),), True)

    def test_in_any_order_and_alike(self):
        book = Book([RED, BLUE])
        self.assert_looks(book, ((2, 0, 9), (0, 3, 3), (1, 7, LAST), (0, 0, LAST)), True)
        self.assert_looks(book, ((1, 0, 9), (1, 0, 9), (1, 5, 12), (1, 0, 9)), True)

    def test_at_most_twenty(self):
        book = Book([RED, BLUE])
        look = (1, 3, 4)
        for many in (2, 19, 20):
            self.assert_looks(book, (look,) * many, True)
        for many in (21, 22, 40, 3000):
            self.assert_looks(book, (look,) * many, False)
        some = tuple((at % 3, at, 2 * at) for at in range(21))
        self.assert_looks(book, some[:20], True)
        self.assert_looks(book, some, False)

    def test_a_moment_of_this_book(self):
        for strokes in ([], [RED], [RED, BLUE]):
            book = Book(strokes)
            for moment in range(6):
                self.assert_looks(book, ((moment, 0, 9),), moment <= len(strokes))

    def test_no_looks(self):
        for book in (Book(), Book([RED, BLUE])):
            for thing in things.ANYTHING + [0, 1, (0, 0, 0), (0, 0, LAST), [(0, 0, 0)], [(0, 0, 0), (0, 1, 2)],
                                            {0: (0, 0, 0)}, {}, "", ((0, 0, 0), ()), (((0, 0, 0),),), ((0, 0, 0), None)]:
                self.assert_looks(book, thing, thing == ())

    def test_things_that_are_no_looks(self):
        good = (0, 3, 5)
        for book in (Book(), Book([RED, BLUE])):
            for thing in things.NO_LOOKS:
                for some in ((thing,), (good, thing), (thing, good), (good, good, thing, good), (good,) * 19 + (thing,)):
                    self.assert_looks(book, some, False)
                self.assert_looks(book, [thing], False)

    def test_what_is_told_is_a_truth(self):
        for thing in ((), ((0, 0, 0),), None, (None,), [], 0, ((1, 0, 0),)):
            self.assertIn(are_looks(Book(), thing), (True, False))
            self.assertIs(type(are_looks(Book(), thing)), bool)

    def test_by_the_names(self):
        self.assertIs(are_looks(thing=((1, 0, 0),), book=Book([RED])), True)
        self.assertIs(are_looks(thing=((1, 0, 0),), book=Book()), False)

    def test_behind_a_put_and_a_take(self):
        book = Book([RED])
        looks = ((2, 0, 9), (0, 0, 9))
        self.assert_looks(book, looks, False)
        book.put(0, BLUE)
        self.assert_looks(book, looks, True)
        self.assertEqual(looks, ((2, 0, 9), (0, 0, 9)))
        book.take(0)
        self.assert_looks(book, looks, False)
        self.assertEqual(book, Book([RED]))


class Shown(LooksCase):
    def test_the_places_of_the_look(self):
        book = Book([RED, BLUE])
        self.assert_same(shown(book, (2, 2, 11)), ((2, 2, 0), (3, 5, 1), (6, 9, 0), (10, 11, None)))
        self.assert_same(shown(book, (2, 4, 7)), ((4, 5, 1), (6, 7, 0)))
        self.assert_same(shown(book, (2, 3, 5)), ((3, 5, 1),))
        self.assert_same(shown(book, (2, 6, 9)), ((6, 9, 0),))

    def test_at_its_moment(self):
        book = Book([RED, BLUE])
        self.assert_same(shown(book, (1, 2, 11)), ((2, 9, 0), (10, 11, None)))
        self.assert_same(shown(book, (0, 2, 11)), ((2, 11, None),))
        self.assert_same(shown(book, (0, 0, LAST)), ((0, LAST, None),))
        self.assert_same(shown(Book(), (0, 0, 0)), ((0, 0, None),))

    def test_one_place(self):
        book = Book([RED, BLUE, (LAST, LAST, "a")])
        self.assert_same([shown(book, (3, place, place)) for place in (0, 2, 3, 5, 6, 10, LAST - 1, LAST)],
                         [((0, 0, 0),), ((2, 2, 0),), ((3, 3, 1),), ((5, 5, 1),), ((6, 6, 0),), ((10, 10, None),),
                          ((LAST - 1, LAST - 1, None),), ((LAST, LAST, 2),)])

    def test_the_whole_wall(self):
        self.assert_same(shown(Book([RED, BLUE]), (2, 0, LAST)),
                         ((0, 2, 0), (3, 5, 1), (6, 9, 0), (10, LAST, None)))
        self.assert_same(shown(Book([RED, WIDE]), (2, 0, LAST)), ((0, LAST, 1),))
        self.assert_same(shown(Book([RED, WIDE]), (1, 0, LAST)), ((0, 9, 0), (10, LAST, None)))

    def test_givers_and_no_colours(self):
        self.assert_same(shown(Book([(2, 3, "a"), (4, 5, "a")]), (2, 2, 5)), ((2, 3, 0), (4, 5, 1)))

    def test_of_all_small_books(self):
        for strokes in by_place.small_books(2):
            book = Book(strokes)
            for low, high in itertools.combinations_with_replacement([0, 1, 2, 3, LAST - 3, LAST - 2, LAST - 1, LAST], 2):
                for moment in range(len(strokes) + 1):
                    self.assert_shown(book, strokes, (moment, low, high))

    def test_of_large_books(self):
        for strokes in by_place.large_books():
            book = Book(strokes)
            edges = by_place.starts(strokes, 0, LAST)[::9]
            for low, high in itertools.combinations_with_replacement(edges + [LAST], 2):
                for moment in (0, len(strokes) // 2, len(strokes)):
                    self.assert_shown(book, strokes, (moment, low, high))

    def test_no_look(self):
        for strokes in ([], [RED, BLUE]):
            book = Book(strokes)
            looks = things.NO_LOOKS + things.STROKES + [(len(strokes) + 1, 0, 9), (LAST, 0, 9), (), ((0, 0, 9),) * 2]
            for look in looks:
                self.assert_refused(BadLook, shown, book, look)
            self.assertEqual(book, Book(strokes))

    def test_by_the_names(self):
        self.assert_same(shown(look=(1, 9, 10), book=Book([RED])), ((9, 9, 0), (10, 10, None)))

    def test_behind_each_put_and_take(self):
        strokes = [RED, BLUE, (8, 12, "red")]
        for number, slot in itertools.product(range(3), range(3)):
            book = Book(strokes)
            for moment in range(4):
                self.assert_shown(book, strokes, (moment, 1, 10))
            book.take(number)
            book.put(slot, WIDE)
            left = strokes[:number] + strokes[number + 1:]
            for moment in range(4):
                self.assert_shown(book, left[:slot] + [WIDE] + left[slot:], (moment, 1, 10))
            book.take(slot)
            for moment in range(3):
                self.assert_shown(book, left, (moment, 1, 10))
            self.assert_refused(BadLook, shown, book, (3, 1, 10))

    def test_what_was_told_stays_and_is_new(self):
        book = Book([RED])
        look = (1, 0, 9)
        told = shown(book, look)
        self.assertIs(type(told), tuple)
        self.assertEqual({type(entry) for entry in told}, {tuple})
        self.assertIsNot(shown(book, look), told)
        book.put(0, BLUE)
        self.assert_same(told, ((0, 9, 0),))
        self.assert_same(shown(book, look), ((0, 2, None), (3, 5, 0), (6, 9, None)))
        self.assertEqual(look, (1, 0, 9))


if __name__ == "__main__":
    unittest.main()
