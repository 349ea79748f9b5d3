"""What is seen: point 7."""

import itertools
import unittest

from pastlay.books import Book
from pastlay.errors import NoMoment, NoPlace
from pastlay.seeing import colours, giver, hidden, picture, stack
from tests import by_place, cases, things

LAST = things.LAST
RED = (0, 9, "red")
BLUE = (3, 5, "blue")
WIDE = (0, LAST, "green")
BARE = ((0, LAST, None),)


class SeeingCase(cases.Case):
    def assert_seen(self, book, strokes, moment, named):
        """What is told of the book at a moment is what these strokes, those done by then, show."""
        why = (strokes, moment)
        done = strokes[:moment]
        self.assert_same(picture(book, **named), by_place.entries(done, by_place.giver_at), why)
        self.assert_same(colours(book, **named), by_place.entries(done, by_place.colour_at), why)
        self.assert_same(hidden(book, **named), by_place.hidden_ones(done), why)
        edges = by_place.starts(done, 0, LAST)
        for place in {0, LAST} | set(edges) | {edge - 1 for edge in edges if edge > 0}:
            over = [number for number, (low, high, _) in enumerate(done) if place in range(low, high + 1)]
            self.assert_same(giver(book, place, **named), by_place.giver_at(done, place), why + (place,))
            self.assert_same(stack(book, place, **named), over[::-1], why + (place,))

    def assert_all(self, book, strokes):
        """All that is told of the book, at each moment, is what these strokes show."""
        strokes = list(strokes)
        for moment in range(len(strokes) + 1):
            self.assert_seen(book, strokes, moment, {"moment": moment})
        self.assert_seen(book, strokes, len(strokes), {"moment": None})
        self.assert_seen(book, strokes, len(strokes), {})


class Giver(SeeingCase):
    def test_the_last_stroke_over_a_place(self):
        book = Book([RED, BLUE])
        self.assert_same([giver(book, place) for place in range(12)], [0, 0, 0, 1, 1, 1, 0, 0, 0, 0, None, None])
        self.assert_same(giver(Book([BLUE, RED]), 4), 1)

    def test_at_a_moment(self):
        book = Book([RED, BLUE])
        self.assert_same([giver(book, 4, moment=moment) for moment in (0, 1, 2, None)], [None, 0, 1, 1])
        self.assert_same([giver(book, 9, moment=moment) for moment in (0, 1, 2, None)], [None, 0, 0, 0])
        self.assert_same([giver(book, 10, moment=moment) for moment in (0, 1, 2, None)], [None] * 4)

    def test_at_the_ends(self):
        book = Book([(0, 0, "a"), (LAST, LAST, "b")])
        self.assert_same([giver(book, place) for place in (0, 1, LAST - 1, LAST)], [0, None, None, 1])
        self.assert_same(giver(book, LAST, moment=1), None)
        book.put(2, WIDE)
        self.assert_same([giver(book, place) for place in (0, 1, LAST - 1, LAST)], [2, 2, 2, 2])

    def test_of_a_book_of_none(self):
        self.assert_same([giver(Book(), place) for place in (0, 5, LAST)], [None, None, None])
        self.assert_same(giver(Book(), 0, moment=0), None)

    def test_the_first_stroke_is_no_bare_place(self):
        self.assertIs(type(giver(Book([RED]), 0)), int)


class Picture(SeeingCase):
    def test_of_none(self):
        self.assert_same(picture(Book()), BARE)
        self.assert_same(picture(Book(), moment=0), BARE)
        self.assert_same(picture(Book(), moment=None), BARE)
        self.assert_same(picture(Book([RED, BLUE]), moment=0), BARE)

    def test_within_one_another(self):
        book = Book([RED, BLUE])
        self.assert_same(picture(book), ((0, 2, 0), (3, 5, 1), (6, 9, 0), (10, LAST, None)))
        self.assert_same(picture(book, moment=1), ((0, 9, 0), (10, LAST, None)))
        self.assert_same(picture(Book([BLUE, RED])), ((0, 9, 1), (10, LAST, None)))
        self.assert_same(picture(Book([RED, RED])), ((0, 9, 1), (10, LAST, None)))

    def test_crossing(self):
        self.assert_same(picture(Book([(2, 6, "a"), (4, 9, "b")])),
                         ((0, 1, None), (2, 3, 0), (4, 9, 1), (10, LAST, None)))
        self.assert_same(picture(Book([(4, 9, "b"), (2, 6, "a")])),
                         ((0, 1, None), (2, 6, 1), (7, 9, 0), (10, LAST, None)))

    def test_side_by_side_and_apart(self):
        self.assert_same(picture(Book([(2, 3, "a"), (4, 5, "a")])),
                         ((0, 1, None), (2, 3, 0), (4, 5, 1), (6, LAST, None)))
        self.assert_same(picture(Book([(2, 3, "a"), (5, 6, "a")])),
                         ((0, 1, None), (2, 3, 0), (4, 4, None), (5, 6, 1), (7, LAST, None)))

    def test_the_whole_wall(self):
        self.assert_same(picture(Book([WIDE])), ((0, LAST, 0),))
        self.assert_same(picture(Book([RED, BLUE, WIDE])), ((0, LAST, 2),))
        self.assert_same(picture(Book([WIDE, BLUE])), ((0, 2, 0), (3, 5, 1), (6, LAST, 0)))

    def test_one_place(self):
        self.assert_same(picture(Book([(0, 0, "a")])), ((0, 0, 0), (1, LAST, None)))
        self.assert_same(picture(Book([(LAST, LAST, "a")])), ((0, LAST - 1, None), (LAST, LAST, 0)))
        self.assert_same(picture(Book([WIDE, (7, 7, "a")])), ((0, 6, 0), (7, 7, 1), (8, LAST, 0)))


class Colours(SeeingCase):
    def test_of_none(self):
        self.assert_same(colours(Book()), BARE)
        self.assert_same(colours(Book(), moment=0), BARE)
        self.assert_same(colours(Book([RED]), moment=0), BARE)

    def test_of_some(self):
        book = Book([RED, BLUE])
        self.assert_same(colours(book), ((0, 2, "red"), (3, 5, "blue"), (6, 9, "red"), (10, LAST, None)))
        self.assert_same(colours(book, moment=1), ((0, 9, "red"), (10, LAST, None)))

    def test_strokes_of_one_colour_side_by_side_are_one(self):
        self.assert_same(colours(Book([(2, 3, "a"), (4, 5, "a")])), ((0, 1, None), (2, 5, "a"), (6, LAST, None)))
        self.assert_same(colours(Book([(4, 5, "a"), (2, 3, "a")])), ((0, 1, None), (2, 5, "a"), (6, LAST, None)))
        self.assert_same(colours(Book([(2, 9, "a"), (4, 5, "a")])), ((0, 1, None), (2, 9, "a"), (10, LAST, None)))
        self.assert_same(colours(Book([(0, 5, "a"), (6, 6, "a"), (3, LAST, "a")])), ((0, LAST, "a"),))
        self.assert_same(colours(Book([(0, 5, "a"), (6, 9, "a"), (4, 7, "b")])),
                         ((0, 3, "a"), (4, 7, "b"), (8, 9, "a"), (10, LAST, None)))

    def test_a_bare_place_between_keeps_them_apart(self):
        self.assert_same(colours(Book([(2, 3, "a"), (5, 6, "a")])),
                         ((0, 1, None), (2, 3, "a"), (4, 4, None), (5, 6, "a"), (7, LAST, None)))

    def test_another_colour_between_keeps_them_apart(self):
        self.assert_same(colours(Book([WIDE, (4, 4, "a")])), ((0, 3, "green"), (4, 4, "a"), (5, LAST, "green")))


class Stack(SeeingCase):
    def test_the_last_one_ahead(self):
        book = Book([RED, BLUE, (5, 20, "a"), WIDE])
        self.assert_same(stack(book, 5), [3, 2, 1, 0])
        self.assert_same(stack(book, 4), [3, 1, 0])
        self.assert_same(stack(book, 6), [3, 2, 0])
        self.assert_same(stack(book, 21), [3])

    def test_at_a_moment(self):
        book = Book([RED, BLUE, (5, 20, "a"), WIDE])
        self.assert_same([stack(book, 5, moment=moment) for moment in (0, 1, 2, 3, 4, None)],
                         [[], [0], [1, 0], [2, 1, 0], [3, 2, 1, 0], [3, 2, 1, 0]])

    def test_of_a_bare_place(self):
        self.assert_same(stack(Book(), 0), [])
        self.assert_same(stack(Book([RED]), 10), [])
        self.assert_same(stack(Book([RED]), LAST), [])

    def test_at_the_ends(self):
        book = Book([(0, 0, "a"), (LAST, LAST, "b"), WIDE])
        self.assert_same([stack(book, place) for place in (0, 1, LAST - 1, LAST)], [[2, 0], [2], [2], [2, 1]])


class Hidden(SeeingCase):
    def test_none(self):
        self.assert_same(hidden(Book()), [])
        self.assert_same(hidden(Book([RED, BLUE])), [])
        self.assert_same(hidden(Book([RED, BLUE]), moment=0), [])

    def test_by_one(self):
        self.assert_same(hidden(Book([BLUE, RED])), [0])
        self.assert_same(hidden(Book([RED, RED, RED])), [0, 1])
        self.assert_same(hidden(Book([BLUE, (7, 8, "a"), RED, (20, 20, "a"), WIDE])), [0, 1, 2, 3])

    def test_by_several_together(self):
        self.assert_same(hidden(Book([RED, (0, 4, "a"), (5, 9, "b")])), [0])
        self.assert_same(hidden(Book([RED, (0, 4, "a"), (6, 9, "b")])), [])
        self.assert_same(hidden(Book([(4, 5, "c"), (0, 4, "a"), BLUE, (5, 9, "b")])), [0])

    def test_at_a_moment(self):
        book = Book([BLUE, RED, WIDE])
        self.assert_same([hidden(book, moment=moment) for moment in (0, 1, 2, 3, None)], [[], [], [0], [0, 1], [0, 1]])


class Each(SeeingCase):
    def test_of_all_small_books(self):
        for strokes in by_place.small_books(3):
            self.assert_all(Book(strokes), strokes)

    def test_colours_of_all_small_ones(self):
        for strokes in by_place.small_books(3):
            for names in itertools.product("ab", repeat=len(strokes)):
                painted = [(low, high, name) for (low, high, _), name in zip(strokes, names)]
                self.assert_same(colours(Book(painted)), by_place.entries(painted, by_place.colour_at), painted)

    def test_of_large_books(self):
        for strokes in by_place.large_books():
            book = Book(strokes)
            for moment in (0, 1, 2, len(strokes) // 2, len(strokes) - 1, len(strokes)):
                self.assert_seen(book, strokes, moment, {"moment": moment})
            self.assert_seen(book, strokes, len(strokes), {})

    def test_by_the_names(self):
        book = Book([RED, BLUE])
        self.assert_same(giver(place=4, moment=1, book=book), 0)
        self.assert_same(stack(moment=2, place=4, book=book), [1, 0])
        self.assert_same(picture(moment=1, book=book), ((0, 9, 0), (10, LAST, None)))
        self.assert_same(colours(moment=1, book=book), ((0, 9, "red"), (10, LAST, None)))
        self.assert_same(hidden(moment=2, book=Book([BLUE, RED])), [0])


class Refused(SeeingCase):
    def test_no_moment(self):
        for strokes in ([], [RED], [RED, BLUE]):
            book = Book(strokes)
            for moment in things.NO_MOMENTS + [len(strokes) + 1, len(strokes) + 2, LAST]:
                for ask in (picture, colours, hidden):
                    self.assert_refused(NoMoment, ask, book, moment=moment)
                for place in (0, 4, LAST):
                    self.assert_refused(NoMoment, giver, book, place, moment=moment)
                    self.assert_refused(NoMoment, stack, book, place, moment=moment)
            self.assert_all(book, strokes)

    def test_no_place(self):
        for strokes in ([], [RED, BLUE], [WIDE]):
            book = Book(strokes)
            for place in things.NO_PLACES + ["red", (0, 1), RED, b"0"]:
                for named in ({}, {"moment": None}, {"moment": 0}, {"moment": len(strokes)}):
                    self.assert_refused(NoPlace, giver, book, place, **named)
                    self.assert_refused(NoPlace, stack, book, place, **named)

    def test_no_place_goes_ahead_of_no_moment(self):
        book = Book([RED])
        for place in things.NO_PLACES:
            for moment in (-1, 2, True, False, "0", (), [], {}, things.FORTY, -things.FORTY, place):
                self.assert_refused(NoPlace, giver, book, place, moment=moment)
                self.assert_refused(NoPlace, stack, book, place, moment=moment)

    def test_truths(self):
        book = Book([RED, BLUE])
        for truth in (True, False):
            self.assert_refused(NoPlace, giver, book, truth)
            self.assert_refused(NoPlace, stack, book, truth)
            self.assert_refused(NoMoment, giver, book, 0, moment=truth)
            self.assert_refused(NoMoment, picture, book, moment=truth)


class Changed(SeeingCase):
    def test_behind_each_put_and_take(self):
        strokes = [RED, BLUE, (8, 12, "red")]
        for slot, number in itertools.product(range(4), range(4)):
            book = Book(strokes)
            self.assert_all(book, strokes)
            book.put(slot, WIDE)
            more = strokes[:slot] + [WIDE] + strokes[slot:]
            self.assert_all(book, more)
            book.take(number)
            self.assert_all(book, more[:number] + more[number + 1:])

    def test_behind_a_take_and_a_put_with_nothing_asked_between(self):
        strokes = [RED, BLUE, (8, 12, "red")]
        for number, slot in itertools.product(range(3), range(3)):
            book = Book(strokes)
            self.assert_all(book, strokes)
            book.take(number)
            book.put(slot, (4, 10, "green"))
            left = strokes[:number] + strokes[number + 1:]
            self.assert_all(book, left[:slot] + [(4, 10, "green")] + left[slot:])

    def test_the_moments_go_with_the_length(self):
        book = Book([RED])
        self.assert_refused(NoMoment, picture, book, moment=2)
        book.put(0, BLUE)
        self.assert_same(picture(book, moment=2), ((0, 9, 1), (10, LAST, None)))
        book.take(1)
        self.assert_refused(NoMoment, picture, book, moment=2)
        self.assert_same(picture(book), picture(book, moment=1))
        book.take(0)
        self.assert_refused(NoMoment, picture, book, moment=1)
        self.assert_same(picture(book), BARE)

    def test_books_go_on_by_themselves(self):
        book = Book([RED])
        copy = book.copy()
        self.assert_all(copy, [RED])
        book.put(1, BLUE)
        self.assert_all(copy, [RED])
        self.assert_all(book, [RED, BLUE])
        self.assert_all(Book([WIDE]), [WIDE])
        self.assert_all(book, [RED, BLUE])

    def test_asking_changes_no_book(self):
        book = Book([BLUE, RED])
        self.assert_all(book, [BLUE, RED])
        self.assert_refused(NoPlace, giver, book, -1)
        self.assert_refused(NoMoment, hidden, book, moment=3)
        self.assertEqual(book, Book([BLUE, RED]))

    def test_told_lists_are_the_askers_own(self):
        book = Book([BLUE, RED])
        for ask in (lambda: stack(book, 4), lambda: stack(book, 4, moment=2), lambda: stack(book, 10),
                    lambda: hidden(book), lambda: hidden(book, moment=2), lambda: hidden(book, moment=0)):
            told = ask()
            wanted = list(told)
            told.append(7)
            self.assert_same(ask(), wanted)
            told.clear()
            self.assert_same(ask(), wanted)
            self.assertIsNot(ask(), ask())
        self.assert_all(book, [BLUE, RED])

    def test_what_was_told_stays(self):
        book = Book([RED])
        told = [picture(book), colours(book), stack(book, 4), hidden(book)]
        book.put(0, BLUE)
        book.take(1)
        self.assert_same(told, [((0, 9, 0), (10, LAST, None)), ((0, 9, "red"), (10, LAST, None)), [0], []])

    def test_told_tuples_are_tuples_throughout(self):
        for told in (picture(Book([RED, BLUE])), colours(Book([RED, BLUE]))):
            self.assertIs(type(told), tuple)
            self.assertEqual({type(entry) for entry in told}, {tuple})


if __name__ == "__main__":
    unittest.main()
