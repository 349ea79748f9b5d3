"""Places, stretches, colours, strokes and rows: point 4."""

import itertools
import unittest

from pastlay.shapes import LAST, apart, both, is_colour, is_place, is_stretch, is_stroke, joined, rest
from tests import things


class Last(unittest.TestCase):
    def test_it_is_a_thousand_millions(self):
        self.assertEqual(LAST, 1000000000)
        self.assertIs(type(LAST), int)


class Told(unittest.TestCase):
    def assert_each(self, ask, some, answer):
        for thing in some:
            if ask(thing) is not answer:
                self.fail(f"{ask.__name__} of {repr(thing)[:200]} is not {answer}")

    def test_places(self):
        self.assert_each(is_place, [0, 1, 2, 9, 10 ** 8, LAST - 1, LAST], True)

    def test_no_places(self):
        self.assert_each(is_place, things.NO_PLACES, False)
        self.assert_each(is_place, things.STRETCHES + things.COLOURS + things.STROKES, False)

    def test_stretches(self):
        self.assert_each(is_stretch, things.STRETCHES, True)
        self.assert_each(is_stretch, list(itertools.combinations_with_replacement(range(6), 2)), True)

    def test_no_stretches(self):
        self.assert_each(is_stretch, things.NO_STRETCHES, False)
        self.assert_each(is_stretch, things.COLOURS + things.STROKES, False)
        self.assert_each(is_stretch, [(high, low) for low, high in itertools.combinations(range(6), 2)], False)
        self.assert_each(is_stretch, [list(stretch) for stretch in things.STRETCHES], False)

    def test_truths_are_no_numbers(self):
        for stretch in [(True, True), (False, True), (0, True), (False, 1), (False, False), (True, 5)]:
            self.assertIs(is_stretch(stretch), False)
            self.assertIs(is_stroke(stretch + ("red",)), False)

    def test_colours(self):
        self.assert_each(is_colour, things.COLOURS, True)
        self.assert_each(is_colour, [chr(code) for code in range(ord("a"), ord("z") + 1)], True)
        self.assert_each(is_colour, ["q" * many for many in range(1, 9)], True)

    def test_no_colours(self):
        self.assert_each(is_colour, things.NO_COLOURS, False)
        self.assert_each(is_colour, things.STRETCHES + things.STROKES, False)

    def test_the_letters_from_a_to_z_and_no_other_sign(self):
        for code in range(0x3000):
            good = code in range(ord("a"), ord("z") + 1)
            for text in (chr(code), "red" + chr(code), chr(code) + "red", "re" + chr(code) + "d"):
                self.assertIs(is_colour(text), good, ascii(text))

    def test_strokes(self):
        self.assert_each(is_stroke, things.STROKES, True)

    def test_no_strokes(self):
        self.assert_each(is_stroke, things.NO_STROKES, False)
        self.assert_each(is_stroke, things.STRETCHES + things.COLOURS, False)
        self.assert_each(is_stroke, [list(stroke) for stroke in things.STROKES], False)

    def test_by_the_name(self):
        self.assertIs(is_place(thing=0), True)
        self.assertIs(is_stretch(thing=(0, 0)), True)
        self.assertIs(is_colour(thing="red"), True)
        self.assertIs(is_stroke(thing=(0, 0, "red")), True)


def places_of(some):
    """The set of the places of some stretches."""
    return {place for low, high in some for place in range(low, high + 1)}


def row_of(places):
    """The row of a set of places, found place by place."""
    firsts = sorted(place for place in places if place - 1 not in places)
    lasts = sorted(place for place in places if place + 1 not in places)
    return tuple(zip(firsts, lasts))


def all_stretches(least, most):
    return list(itertools.combinations_with_replacement(range(least, most + 1), 2))


class Rows(unittest.TestCase):
    def assert_row(self, told, row):
        self.assertEqual(told, row)
        self.assertIs(type(told), tuple)
        for stretch in told:
            self.assertIs(type(stretch), tuple)

    def test_joined(self):
        self.assert_row(joined([(3, 5), (0, 1)]), ((0, 1), (3, 5)))
        self.assert_row(joined(((3, 5), (0, 4))), ((0, 5),))
        self.assert_row(joined([(0, 1), (2, 3)]), ((0, 3),))
        self.assert_row(joined([(2, 3), (0, 1)]), ((0, 3),))
        self.assert_row(joined([(0, 9), (3, 5), (7, 7)]), ((0, 9),))
        self.assert_row(joined([(3, 5), (3, 5)]), ((3, 5),))
        self.assert_row(joined([(0, 9), (3, 5), (8, 12), (13, 13), (15, 15)]), ((0, 13), (15, 15)))

    def test_joined_of_none(self):
        self.assert_row(joined([]), ())
        self.assert_row(joined(()), ())

    def test_joined_at_the_ends(self):
        self.assert_row(joined([(LAST, LAST), (0, 0)]), ((0, 0), (LAST, LAST)))
        self.assert_row(joined([(LAST, LAST), (LAST - 1, LAST - 1)]), ((LAST - 1, LAST),))
        self.assert_row(joined([(0, LAST), (5, 6), (0, 0), (LAST, LAST)]), ((0, LAST),))
        self.assert_row(joined([(LAST - 2, LAST - 2), (LAST, LAST)]), ((LAST - 2, LAST - 2), (LAST, LAST)))

    def test_both(self):
        self.assert_row(both([(0, 5)], [(3, 9)]), ((3, 5),))
        self.assert_row(both([(3, 9)], [(0, 5)]), ((3, 5),))
        self.assert_row(both([(0, 5)], [(6, 9)]), ())
        self.assert_row(both([(0, 5)], [(5, 9)]), ((5, 5),))
        self.assert_row(both([(0, 9)], [(7, 8), (1, 1), (3, 4), (5, 5)]), ((1, 1), (3, 5), (7, 8)))
        self.assert_row(both([(0, 1), (2, 3)], [(1, 2)]), ((1, 2),))
        self.assert_row(both([(0, 1), (1, 3)], [(3, 3), (0, 2)]), ((0, 3),))

    def test_both_of_none(self):
        for some in ([], ()):
            self.assert_row(both(some, []), ())
            self.assert_row(both(some, [(0, LAST)]), ())
            self.assert_row(both([(0, LAST)], some), ())

    def test_both_at_the_ends(self):
        self.assert_row(both([(0, LAST)], [(0, LAST)]), ((0, LAST),))
        self.assert_row(both([(0, LAST)], [(LAST, LAST), (0, 0)]), ((0, 0), (LAST, LAST)))
        self.assert_row(both([(LAST, LAST)], [(LAST, LAST)]), ((LAST, LAST),))
        self.assert_row(both([(0, 0)], [(0, 0)]), ((0, 0),))
        self.assert_row(both([(0, LAST - 1)], [(LAST, LAST)]), ())

    def test_apart(self):
        self.assert_row(apart([(0, 9)], [(3, 5)]), ((0, 2), (6, 9)))
        self.assert_row(apart([(3, 5)], [(0, 9)]), ())
        self.assert_row(apart([(0, 9)], [(0, 3), (7, 9)]), ((4, 6),))
        self.assert_row(apart([(4, 9), (0, 3)], [(5, 5), (5, 5), (3, 3)]), ((0, 2), (4, 4), (6, 9)))
        self.assert_row(apart([(0, 2), (4, 6)], [(3, 3)]), ((0, 2), (4, 6)))
        self.assert_row(apart([(0, 9)], [(2, 4), (5, 7)]), ((0, 1), (8, 9)))

    def test_apart_of_none(self):
        for some in ([], ()):
            self.assert_row(apart(some, []), ())
            self.assert_row(apart(some, [(0, LAST)]), ())
            self.assert_row(apart([(3, 4), (0, 2)], some), ((0, 4),))
            self.assert_row(apart([(0, LAST)], some), ((0, LAST),))

    def test_apart_at_the_ends(self):
        self.assert_row(apart([(0, LAST)], [(0, LAST)]), ())
        self.assert_row(apart([(0, LAST)], [(0, 0), (LAST, LAST)]), ((1, LAST - 1),))
        self.assert_row(apart([(0, LAST)], [(1, LAST - 1)]), ((0, 0), (LAST, LAST)))
        self.assert_row(apart([(LAST, LAST), (0, 0)], [(LAST, LAST)]), ((0, 0),))
        self.assert_row(apart([(LAST, LAST), (0, 0)], [(0, 0)]), ((LAST, LAST),))

    def test_the_rest(self):
        self.assert_row(rest([]), ((0, LAST),))
        self.assert_row(rest([(0, LAST)]), ())
        self.assert_row(rest([(0, 0)]), ((1, LAST),))
        self.assert_row(rest([(LAST, LAST)]), ((0, LAST - 1),))
        self.assert_row(rest([(5, 6), (1, 3), (4, 4)]), ((0, 0), (7, LAST)))
        self.assert_row(rest([(9, LAST), (0, 4)]), ((5, 8),))

    def test_joined_of_all_small_ones(self):
        for least in (0, LAST - 4):
            stretches = all_stretches(least, least + 4)
            for many in range(4):
                for some in itertools.product(stretches, repeat=many):
                    self.assertEqual(joined(some), row_of(places_of(some)), some)

    def test_both_and_apart_of_all_small_ones(self):
        for least in (0, LAST - 3):
            stretches = all_stretches(least, least + 3)
            pairs = [some for many in range(3) for some in itertools.product(stretches, repeat=many)]
            for some in pairs:
                for others in pairs:
                    here = places_of(some)
                    there = places_of(others)
                    self.assertEqual(both(some, others), row_of(here & there), (some, others))
                    self.assertEqual(apart(some, others), row_of(here - there), (some, others))

    def test_many_stretches(self):
        evens = [(place, place) for place in range(0, 8000, 2)]
        odds = [(place, place) for place in range(7999, 0, -2)]
        self.assertEqual(joined(evens + odds), ((0, 7999),))
        self.assertEqual(joined(evens), tuple(evens))
        self.assertEqual(both(evens, odds), ())
        self.assertEqual(both(evens, [(0, 7999)]), tuple(evens))
        self.assertEqual(apart([(0, 7999)], odds), tuple(evens))

    def test_a_list_or_a_tuple(self):
        some = [(3, 5), (0, 1), (3, 5)]
        others = [(5, 9), (1, 1)]
        for one in (some, tuple(some)):
            self.assertEqual(joined(one), ((0, 1), (3, 5)))
            for other in (others, tuple(others)):
                self.assertEqual(both(one, other), ((1, 1), (5, 5)))
                self.assertEqual(apart(one, other), ((0, 0), (3, 4)))

    def test_by_the_names(self):
        self.assertEqual(joined(some=[(0, 1)]), ((0, 1),))
        self.assertEqual(both(others=[(1, 2)], some=[(0, 1)]), ((1, 1),))
        self.assertEqual(apart(others=[(1, 2)], some=[(0, 1)]), ((0, 0),))

    def test_what_is_handed_in_is_not_changed_or_kept(self):
        some = [(7, 9), (3, 5), (0, 4)]
        others = [(8, 8), (1, 2)]
        told = [joined(some), both(some, others), apart(some, others)]
        self.assertEqual(some, [(7, 9), (3, 5), (0, 4)])
        self.assertEqual(others, [(8, 8), (1, 2)])
        some.append((20, 30))
        others.clear()
        self.assertEqual(told, [((0, 5), (7, 9)), ((1, 2), (8, 8)), ((0, 0), (3, 5), (7, 7), (9, 9))])
        self.assertEqual(joined(some), ((0, 5), (7, 9), (20, 30)))

    def test_what_is_told_is_new(self):
        row = tuple([(0, 1), (3, 5)])
        for told in (joined(row), both(row, row), apart(row, ())):
            self.assertEqual(told, row)
            self.assertIsNot(told, row)


if __name__ == "__main__":
    unittest.main()
