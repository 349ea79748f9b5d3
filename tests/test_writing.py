"""Books read from their writing: point 6."""

import itertools
import unittest

from pastlay.books import Book
from pastlay.errors import NoText
from pastlay.writing import is_number, read
from tests import by_place, cases, things

LAST = things.LAST
RED = (0, 9, "red")
BLUE = (3, 5, "blue")
LONG = 5000


def written(strokes):
    return " / ".join(str(low) + " " + str(high) + " " + colour for low, high, colour in strokes)


def beginnings_of(strokes, most):
    """All rows of words with which the writing of a book of at most as many of these strokes begins, and all whole."""
    whole = set()
    for many in range(most + 1):
        for some in itertools.product(strokes, repeat=many):
            whole.add(tuple(written(some).split()))
    return {words[:many] for words in whole for many in range(len(words) + 1)}, whole


class WritingCase(cases.Case):
    def assert_read(self, text, strokes):
        book = read(text)
        self.assertIs(type(book), Book)
        self.assert_same(book.strokes(), tuple(strokes))
        self.assertEqual(book, Book(strokes))
        self.assertEqual(str(book), text)

    def assert_no_text(self, thing, at):
        refusal = self.assert_refused(NoText, read, thing)
        self.assert_same(refusal.at, at, ascii(thing)[:200])


class Number(cases.Case):
    def test_one_to_ten_figures(self):
        for word in ["0", "1", "9", "10", "1000000000", "9" * 10]:
            self.assertIs(is_number(word), True, word)
        for word in ["", "9" * 11, "1" * LONG, "00", "01", "0" * 10, "-1", " 1", "1 ", "\u0661", "\u00b2", "a"]:
            self.assertIs(is_number(word), False, ascii(word)[:200])


class Read(WritingCase):
    def test_of_no_word(self):
        self.assert_read("", [])

    def test_of_one_stroke(self):
        self.assert_read("0 9 red", [RED])
        for stroke in things.STROKES:
            self.assert_read(written([stroke]), [stroke])

    def test_of_more(self):
        self.assert_read("0 9 red / 3 5 blue", [RED, BLUE])
        self.assert_read("3 5 blue / 0 9 red / 3 5 blue", [BLUE, RED, BLUE])

    def test_at_the_ends(self):
        self.assert_read("0 0 a / 0 1000000000 abcdefgh / 1000000000 1000000000 z",
                         [(0, 0, "a"), (0, LAST, "abcdefgh"), (LAST, LAST, "z")])
        self.assert_read("999999999 1000000000 a", [(LAST - 1, LAST, "a")])
        self.assert_read("10 100 a", [(10, 100, "a")])

    def test_of_sixty_strokes(self):
        strokes = things.STROKES[:60]
        self.assert_read(written(strokes), strokes)
        for strokes in by_place.large_books():
            self.assert_read(written(strokes), strokes)

    def test_what_a_book_tells_as_its_str(self):
        for strokes in by_place.small_books(2):
            self.assert_read(str(Book(strokes)), strokes)

    def test_by_the_name(self):
        self.assertEqual(read(text="0 9 red"), Book([RED]))

    def test_each_reading_tells_a_book_that_goes_on_by_itself(self):
        first = read("0 9 red")
        second = read("0 9 red")
        self.assertIsNot(first, second)
        first.put(0, BLUE)
        self.assertEqual(second, Book([RED]))
        self.assertEqual(read("0 9 red"), Book([RED]))
        second.take(0)
        self.assertEqual(first, Book([BLUE, RED]))
        self.assertEqual(read("0 9 red"), Book([RED]))
        nothing = read("")
        nothing.put(0, RED)
        self.assertEqual(read(""), Book())


class NoWriting(WritingCase):
    def test_what_is_no_text(self):
        for thing in things.ANYTHING + [0, 1, ("0 9 red",), ["0 9 red"], ["0", "9", "red"], RED, (RED,), b"0 9 red", b"",
                                        Book(), Book([RED]), {"0 9 red": 0}]:
            if not isinstance(thing, str):
                self.assert_no_text(thing, 0)

    def test_a_number_that_is_none(self):
        for word in ["00", "01", "007", "0" * 10, "0" * 11, "0000000001", "-0", "-1", "+1", "1.0", "1_0", "0x1", "1e3",
                     "a", "red", "/", "", "one", "True", "None", "1a", "a1", "1,", "(1)", "9" * 10, "1000000001",
                     "9999999999", "10000000000", "12345678901", "1" * 11, "1" * LONG, "0" * LONG, "9" * LONG,
                     "a" * LONG, "-" + "1" * LONG, "1" * LONG + "a"]:
            self.assert_no_text(word + " 9 red", 0)
            self.assert_no_text("0 " + word + " red", 1)
            self.assert_no_text("0 9 red / " + word + " 9 blue", 4)
            self.assert_no_text("0 9 red / 0 " + word + " blue", 5)

    def test_a_number_that_is_one_where_none_may_stand(self):
        self.assert_no_text("0 9 0", 2)
        self.assert_no_text("0 9 red 0", 3)
        self.assert_no_text("0 9 red / 0 9 red 5", 7)

    def test_a_high_below_its_low(self):
        self.assert_no_text("1 0 red", 1)
        self.assert_no_text("1 0", 1)
        self.assert_no_text("9 10 red / 10 9 red", 5)
        self.assert_no_text("1000000000 999999999 red", 1)
        self.assert_no_text("1000000000 0 red", 1)
        self.assert_read("9 10 red", [(9, 10, "red")])
        self.assert_read("10 10 red", [(10, 10, "red")])

    def test_a_low_is_held_against_the_high_of_its_own_stroke(self):
        self.assert_read("5 9 red / 0 3 red", [(5, 9, "red"), (0, 3, "red")])
        self.assert_no_text("0 3 red / 5 3 red", 5)

    def test_a_colour_that_is_none(self):
        for word in ["", "abcdefghi", "a" * 9, "a" * LONG, "A", "Red", "reD", "RED", "red1", "1", "0", "re-d", "r_d", "/",
                     "red,", "re/d", "None", "`", "{"]:
            self.assert_no_text("0 9 " + word, 2)
            self.assert_no_text("0 9 " + word + " / 3 5 blue", 2)
            self.assert_no_text("0 9 red / 3 5 " + word, 6)

    def test_what_parts_strokes(self):
        for word in ["", "//", "|", ",", "\\", "red", "0", "/0", "a/", "\uff0f", "/" * LONG]:
            self.assert_no_text("0 9 red " + word + " 3 5 blue", 3)
        self.assert_no_text("0 9 red/ 3 5 blue", 2)
        self.assert_no_text("0 9 red /3 5 blue", 3)
        self.assert_no_text("0 9 red 3 5 blue", 3)
        self.assert_no_text("0 9 red/3 5 blue", 2)

    def test_a_word_too_few(self):
        self.assert_no_text("0", 1)
        self.assert_no_text("1000000000", 1)
        self.assert_no_text("0 9", 2)
        self.assert_no_text("0 9 red /", 4)
        self.assert_no_text("0 9 red / 3", 5)
        self.assert_no_text("0 9 red / 3 5", 6)
        self.assert_no_text("0 9 red / 3 5 blue /", 8)
        self.assert_no_text("0 red", 1)

    def test_a_word_too_many(self):
        self.assert_no_text("0 9 red blue", 3)
        self.assert_no_text("0 0 9 red", 2)
        self.assert_no_text("0 9 9 red", 2)
        self.assert_no_text("0 9 red / / 3 5 blue", 4)

    def test_a_parting_at_an_end(self):
        self.assert_no_text("/", 0)
        self.assert_no_text(" / ", 0)
        self.assert_no_text("/ 0 9 red", 0)
        self.assert_no_text(" / 0 9 red", 0)
        self.assert_no_text("0 9 red / ", 4)

    def test_blanks(self):
        self.assert_no_text(" ", 0)
        self.assert_no_text("  ", 0)
        self.assert_no_text(" " * LONG, 0)
        self.assert_no_text(" 0 9 red", 0)
        self.assert_no_text("0 9 red ", 3)
        self.assert_no_text("0 9 red  ", 3)
        self.assert_no_text("0  9 red", 1)
        self.assert_no_text("0 9  red", 2)
        self.assert_no_text("0 9 red  / 3 5 blue", 3)
        self.assert_no_text("0 9 red /  3 5 blue", 4)
        self.assert_no_text("0 ", 1)
        self.assert_no_text("0 9 ", 2)

    def test_other_signs_part_no_words(self):
        for sign in ["\n", "\t", "\r", "\r\n", "\v", "\f", "\u00a0", "\u2003", "\u2028", "\u3000", "\u200b", "\x00", "\x1f"]:
            self.assert_no_text(sign, 0)
            self.assert_no_text("0" + sign + "9 red", 0)
            self.assert_no_text("0 9" + sign + "red", 1)
            self.assert_no_text("0 9 red" + sign + "/ 3 5 blue", 2)
            self.assert_no_text("0 9 red" + sign, 2)
            self.assert_no_text("0 9 red " + sign, 3)
            self.assert_no_text(sign + "0 9 red", 0)
            self.assert_no_text("0 9 red /" + sign + "3 5 blue", 3)
            self.assert_no_text("0 9 red / 3" + sign + " 5 blue", 4)
            self.assert_no_text("0 9" + sign + " red", 1)

    def test_figures_and_letters_of_other_alphabets(self):
        for figure in ["\u0660", "\u0665", "\u0966", "\uff10", "\uff15", "\u00b2", "\u2460", "\u4e94", "\U0001d7d8"]:
            self.assert_no_text(figure + " 9 red", 0)
            self.assert_no_text("1" + figure + " 99 red", 0)
            self.assert_no_text("0 " + figure + " red", 1)
            self.assert_no_text("0 1" + figure + " red", 1)
        for letter in ["\u00e9", "\u00df", "\u00aa", "\u0430", "\uff41", "\u0131", "\u017f", "\u03b1", "\ud800"]:
            self.assert_no_text("0 9 " + letter, 2)
            self.assert_no_text("0 9 r" + letter + "d", 2)

    def test_the_first_word_that_fits_none_is_told(self):
        self.assert_no_text("x y z", 0)
        self.assert_no_text("0 y z", 1)
        self.assert_no_text("0 9 Z z", 2)
        self.assert_no_text("5 3 RED / /", 1)
        self.assert_no_text("0 9 red / 3 5 blue / 7 6 blue / x", 9)
        strokes = things.STROKES[:60]
        self.assert_no_text(written(strokes) + " / 01 2 red", 240)
        self.assert_no_text(written(strokes) + " / ", 240)
        self.assert_no_text(written(strokes) + " /", 240)
        self.assert_no_text(written(strokes) + " red", 239)

    def assert_each(self, words, most, strokes):
        """Each row of at most as many of these words, held against the writings of all books of these strokes."""
        beginnings, whole = beginnings_of(strokes, (most + 4) // 4)
        for many in range(1, most + 1):
            for row in itertools.product(words, repeat=many):
                # A word of no signs alone is the empty text, which has no word.
                if row == ("",):
                    continue
                wrong = [at for at in range(many) if row[:at + 1] not in beginnings]
                if wrong:
                    self.assert_no_text(" ".join(row), wrong[0])
                elif row in whole:
                    self.assertEqual(str(read(" ".join(row))), " ".join(row))
                else:
                    self.assert_no_text(" ".join(row), many)

    def test_each_row_of_some_words(self):
        self.assert_each(["0", "5", "05", "red", "Red", "/", ""], 4, [(0, 0, "red"), (0, 5, "red"), (5, 5, "red")])
        self.assert_each(["0", "5", "red", "/"], 7, [(0, 0, "red"), (0, 5, "red"), (5, 5, "red")])


if __name__ == "__main__":
    unittest.main()
