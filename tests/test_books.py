"""Books: points 5 and 6 (how a book is written)."""

import itertools
import unittest

from pastlay.books import Book
from pastlay.errors import BadStroke, NoSlot, NoStroke
from tests import cases, things

LAST = things.LAST
RED = (0, 9, "red")
BLUE = (3, 5, "blue")
WIDE = (0, LAST, "abcdefgh")
END = (LAST, LAST, "z")


def written(strokes):
    return " / ".join(str(low) + " " + str(high) + " " + colour for low, high, colour in strokes)


class BookCase(cases.Case):
    def assert_is(self, book, strokes):
        """All that a book tells is just what these strokes tell."""
        strokes = tuple(strokes)
        self.assertEqual(book.strokes(), strokes)
        self.assertEqual(len(book), len(strokes))
        self.assertEqual(repr(book), "Book(" + repr(strokes) + ")")
        self.assertEqual(str(book), written(strokes))
        self.assertIs(book == Book(strokes), True)
        self.assertIs(Book(strokes) == book, True)
        self.assertIs(book != Book(strokes), False)
        self.assertIs(book == Book(strokes + (RED,)), False)


class Made(BookCase):
    def test_of_nothing(self):
        self.assert_is(Book(), ())
        self.assert_is(Book(()), ())
        self.assert_is(Book([]), ())

    def test_of_a_tuple_or_a_list(self):
        self.assert_is(Book((RED, BLUE)), (RED, BLUE))
        self.assert_is(Book([RED, BLUE]), (RED, BLUE))
        self.assert_is(Book([RED, RED, RED]), (RED, RED, RED))
        self.assert_is(Book([END, WIDE, BLUE, (0, 0, "a")]), (END, WIDE, BLUE, (0, 0, "a")))
        self.assert_is(Book(things.STROKES[:60]), things.STROKES[:60])

    def test_by_the_name(self):
        self.assert_is(Book(strokes=[RED]), (RED,))

    def test_of_no_tuple_or_list_of_strokes(self):
        for thing in things.NO_BOOKS + ["0 9 red", {0: RED}, {}, {0: RED, 1: BLUE}]:
            self.assert_refused(BadStroke, Book, thing)

    def test_of_another_book(self):
        self.assert_refused(BadStroke, Book, Book())
        self.assert_refused(BadStroke, Book, Book([RED]))

    def test_of_one_stroke(self):
        self.assert_refused(BadStroke, Book, RED)
        self.assert_refused(BadStroke, Book, list(RED))

    def test_of_things_that_are_no_strokes(self):
        for thing in things.NO_STROKES:
            for strokes in ([thing], (thing,), [RED, thing], [thing, RED], (RED, thing, BLUE)):
                self.assert_refused(BadStroke, Book, strokes)

    def test_each_is_one_of_its_own(self):
        first = Book()
        second = Book()
        first.put(0, RED)
        self.assert_is(first, (RED,))
        self.assert_is(second, ())
        self.assert_is(Book(), ())


class Put(BookCase):
    def test_at_each_slot(self):
        strokes = [RED, BLUE, END]
        for slot in range(4):
            book = Book(strokes)
            self.assertIsNone(book.put(slot, WIDE))
            self.assert_is(book, strokes[:slot] + [WIDE] + strokes[slot:])

    def test_into_a_book_of_none(self):
        book = Book()
        self.assertIsNone(book.put(0, RED))
        self.assert_is(book, (RED,))

    def test_all_strokes(self):
        for stroke in things.STROKES:
            book = Book([RED])
            book.put(1, stroke)
            self.assert_is(book, (RED, stroke))

    def test_by_the_names(self):
        book = Book([RED])
        book.put(stroke=BLUE, slot=0)
        self.assert_is(book, (BLUE, RED))

    def test_no_slot(self):
        for strokes in ([], [RED], [RED, BLUE]):
            book = Book(strokes)
            for slot in things.ANYTHING + [len(strokes) + 1, "red", (0, 1), RED, LAST]:
                self.assert_refused(NoSlot, book.put, slot, END)
            self.assert_is(book, strokes)

    def test_no_stroke(self):
        for strokes in ([], [RED, BLUE]):
            book = Book(strokes)
            for stroke in things.NO_STROKES:
                self.assert_refused(BadStroke, book.put, 0, stroke)
                self.assert_refused(BadStroke, book.put, len(strokes), stroke)
            self.assert_is(book, strokes)

    def test_no_slot_goes_ahead_of_no_stroke(self):
        book = Book([RED])
        for slot in things.ANYTHING + [2]:
            for stroke in (None, [0, 1, "red"], (1, 0, "red"), (0, 1, "Red"), (0, 1, True), slot):
                self.assert_refused(NoSlot, book.put, slot, stroke)
        self.assert_is(book, (RED,))


class Take(BookCase):
    def test_each_one(self):
        strokes = [RED, BLUE, END, BLUE]
        for number in range(4):
            book = Book(strokes)
            self.assertEqual(book.take(number), strokes[number])
            self.assert_is(book, strokes[:number] + strokes[number + 1:])

    def test_the_only_one(self):
        book = Book([RED])
        self.assertEqual(book.take(0), RED)
        self.assert_is(book, ())
        self.assert_refused(NoStroke, book.take, 0)

    def test_the_first_ones_and_the_last_ones(self):
        strokes = [RED, BLUE, END, WIDE]
        book = Book(strokes)
        self.assertEqual([book.take(0) for _ in strokes], strokes)
        book = Book(strokes)
        self.assertEqual([book.take(len(book) - 1) for _ in strokes], strokes[::-1])

    def test_by_the_name(self):
        self.assertEqual(Book([RED, BLUE]).take(number=1), BLUE)

    def test_no_stroke(self):
        for strokes in ([], [RED], [RED, BLUE]):
            book = Book(strokes)
            for number in things.ANYTHING + [len(strokes), len(strokes) + 1, "red", (0, 1), RED, LAST]:
                self.assert_refused(NoStroke, book.take, number)
            self.assert_is(book, strokes)


class Changed(BookCase):
    def test_a_take_and_a_put_behind_one_another(self):
        strokes = [RED, BLUE, END]
        for number in range(3):
            for slot in range(3):
                book = Book(strokes)
                self.assert_is(book, strokes)
                book.take(number)
                book.put(slot, WIDE)
                left = strokes[:number] + strokes[number + 1:]
                self.assert_is(book, left[:slot] + [WIDE] + left[slot:])

    def test_a_put_and_a_take_behind_one_another(self):
        strokes = [RED, BLUE, END]
        for slot in range(4):
            for number in range(4):
                book = Book(strokes)
                self.assert_is(book, strokes)
                book.put(slot, WIDE)
                more = strokes[:slot] + [WIDE] + strokes[slot:]
                self.assertEqual(book.take(number), more[number])
                self.assert_is(book, more[:number] + more[number + 1:])

    def test_a_stroke_taken_and_put_back(self):
        book = Book([RED, BLUE])
        self.assert_is(book, (RED, BLUE))
        book.put(1, book.take(0))
        self.assert_is(book, (BLUE, RED))
        book.put(0, book.take(1))
        self.assert_is(book, (RED, BLUE))

    def test_each_row_of_three_deeds(self):
        deeds = [("put", at) for at in range(4)] + [("take", at) for at in range(4)]
        for row in itertools.product(deeds, repeat=3):
            strokes = [RED, BLUE]
            book = Book(strokes)
            for step, (deed, at) in enumerate(row):
                if deed == "put" and at <= len(strokes):
                    book.put(at, (step, step, "green"))
                    strokes.insert(at, (step, step, "green"))
                elif deed == "put":
                    self.assert_refused(NoSlot, book.put, at, RED)
                elif at < len(strokes):
                    self.assertEqual(book.take(at), strokes.pop(at))
                else:
                    self.assert_refused(NoStroke, book.take, at)
            self.assert_is(book, strokes)


class HandedIn(BookCase):
    def test_a_list_changed_afterwards_changes_no_book(self):
        strokes = [RED, BLUE]
        book = Book(strokes)
        strokes.append(END)
        self.assert_is(book, (RED, BLUE))
        strokes[0] = WIDE
        self.assert_is(book, (RED, BLUE))
        strokes.clear()
        self.assert_is(book, (RED, BLUE))

    def test_a_book_changes_no_list(self):
        strokes = [RED, BLUE]
        book = Book(strokes)
        book.put(0, END)
        book.take(1)
        self.assertEqual(strokes, [RED, BLUE])

    def test_a_list_of_no_strokes_is_not_changed(self):
        strokes = [RED, None, BLUE]
        self.assert_refused(BadStroke, Book, strokes)
        self.assertEqual(strokes, [RED, None, BLUE])

    def test_what_was_told_stays(self):
        book = Book([RED, BLUE])
        told = book.strokes()
        text = str(book)
        shown = repr(book)
        book.put(0, END)
        book.take(2)
        self.assertEqual(told, (RED, BLUE))
        self.assertEqual(text, "0 9 red / 3 5 blue")
        self.assertEqual(shown, "Book(((0, 9, 'red'), (3, 5, 'blue')))")
        self.assert_is(book, (END, RED))

    def test_strokes_are_told_as_a_new_tuple_of_tuples(self):
        strokes = (RED, BLUE)
        book = Book(strokes)
        self.assertIs(type(book.strokes()), tuple)
        self.assertEqual([type(stroke) for stroke in book.strokes()], [tuple, tuple])
        self.assertIsNot(book.strokes(), strokes)
        self.assertIsNot(book.strokes(), book.strokes())
        self.assertIs(type(Book().strokes()), tuple)
        self.assertIs(type(book.take(0)), tuple)


class Copied(BookCase):
    def test_it_is_another_book_with_the_same_strokes(self):
        for strokes in ([], [RED], [RED, BLUE, END]):
            book = Book(strokes)
            copy = book.copy()
            self.assertIs(type(copy), Book)
            self.assertIsNot(copy, book)
            self.assert_is(copy, strokes)
            self.assertEqual(copy, book)

    def test_it_goes_on_by_itself(self):
        book = Book([RED, BLUE])
        copy = book.copy()
        copy.put(1, END)
        self.assert_is(book, (RED, BLUE))
        self.assert_is(copy, (RED, END, BLUE))
        book.take(0)
        self.assert_is(book, (BLUE,))
        self.assert_is(copy, (RED, END, BLUE))
        second = copy.copy()
        copy.take(0)
        self.assert_is(second, (RED, END, BLUE))


class Equal(BookCase):
    def test_books_with_the_same_strokes(self):
        self.assertIs(Book([RED, BLUE]) == Book((RED, BLUE)), True)
        self.assertIs(Book() == Book([]), True)
        self.assertIs(Book() != Book([]), False)

    def test_books_with_other_strokes(self):
        book = Book([RED, BLUE])
        for strokes in ([], [RED], [BLUE], [BLUE, RED], [RED, RED], [RED, BLUE, BLUE], [RED, (3, 5, "blu")],
                        [RED, (3, 4, "blue")], [RED, (2, 5, "blue")]):
            self.assertIs(book == Book(strokes), False)
            self.assertIs(Book(strokes) == book, False)
            self.assertIs(book != Book(strokes), True)

    def test_no_other_thing(self):
        for strokes in ((), (RED,), (RED, BLUE)):
            book = Book(strokes)
            for thing in things.NO_STROKES + [strokes, list(strokes), str(book), repr(book), len(book), Book, object()]:
                self.assertIs(book == thing, False)
                self.assertIs(thing == book, False)
                self.assertIs(book != thing, True)


class Written(BookCase):
    def test_of_none(self):
        self.assertEqual(str(Book()), "")
        self.assertEqual(repr(Book()), "Book(())")

    def test_of_one(self):
        self.assertEqual(str(Book([RED])), "0 9 red")
        self.assertEqual(repr(Book([RED])), "Book(((0, 9, 'red'),))")

    def test_of_more(self):
        self.assertEqual(str(Book([RED, BLUE])), "0 9 red / 3 5 blue")
        self.assertEqual(repr(Book([RED, BLUE])), "Book(((0, 9, 'red'), (3, 5, 'blue')))")
        self.assertEqual(str(Book([BLUE, RED, BLUE])), "3 5 blue / 0 9 red / 3 5 blue")

    def test_at_the_ends(self):
        self.assertEqual(str(Book([(0, 0, "a"), WIDE, END])), "0 0 a / 0 1000000000 abcdefgh / 1000000000 1000000000 z")

    def test_how_many(self):
        for many in (0, 1, 2, 59, 60):
            self.assertEqual(len(Book([RED] * many)), many)


if __name__ == "__main__":
    unittest.main()
