"""A house: points 17 and 18, and what point 3 says of every history."""

import random
import unittest

from pastlay import errors
from pastlay.books import Book
from pastlay.errors import (
    BadDeed, BadName, BadPrices, BadStroke, BadWish, Full, NoHand, NoMark, NoName, NoPlace, NoStroke, NoWish, PastError,
    Twice, Witnessed)
from pastlay.house import House
from pastlay.layings import laid
from pastlay.least import least, runs
from pastlay.looks import shown
from tests import by_history, by_layings, cases, things
from tests.test_least import ONES, striped

LAST = things.LAST
RED = (0, 9, "red")
BLUE = (3, 5, "blue")
WIDE = (0, LAST, "green")
FEW = ((2, 2, "a"), (6, 6, "a"))
NAMES = ["a", "z", "hall", "abcdefgh", "none", "done"]
NO_NAMES = things.NO_COLOURS
SIZES = {"build": 1, "paint": 2, "look": 3, "wish": 3, "strip": 2, "drop": 1, "lay": 3, "withdraw": 2, "grant": 2,
         "mark": 1, "back": 1}


def painted(*strokes):
    """A house with a wall "hall" of these strokes."""
    house = House()
    house.build("hall")
    for stroke in strokes:
        house.paint("hall", stroke)
    return house


def told_of(house):
    """All that a house tells, but for its log."""
    return [(name, house.book_now(name).strokes(), house.looks_now(name), house.open_now(name), house.spent_now(name))
            for name in house.walls_now()]


class HouseCase(cases.Case):
    def assert_stays(self, refusal, house, deed, *given):
        """The refusal comes, nothing is changed, and the log tells it."""
        before = told_of(house)
        log = house.log_now()
        told = self.assert_refused(refusal, getattr(house, deed), *given)
        self.assertEqual(told_of(house), before, (deed, ascii(given)[:200]))
        self.assertEqual(house.log_now(), log + [deed, "refused"])
        return told

    def assert_witnessed(self, house, name, number, at):
        self.assertEqual(self.assert_stays(Witnessed, house, "strip", name, number).at, at)


class Build(HouseCase):
    def test_a_wall_without_strokes(self):
        house = House()
        self.assert_same(house.walls_now(), [])
        for name in NAMES:
            self.assertIsNone(house.build(name))
            self.assert_same(told_of(house)[house.walls_now().index(name)], (name, (), (), (), 0))
        self.assert_same(house.walls_now(), sorted(NAMES))
        self.assertEqual(house.book_now("hall"), Book())

    def test_refused(self):
        house = painted(RED)
        for name in NO_NAMES:
            self.assert_stays(BadName, house, "build", name)
        self.assert_stays(Twice, house, "build", "hall")
        house.drop("hall")
        house.build("hall")
        self.assert_same(house.book_now("hall").strokes(), ())


class Paint(HouseCase):
    def test_behind_all(self):
        house = painted()
        for at, stroke in enumerate([RED, BLUE, WIDE]):
            self.assertIsNone(house.paint("hall", stroke))
            self.assert_same(house.book_now("hall").strokes(), (RED, BLUE, WIDE)[:at + 1])

    def test_at_most_sixty(self):
        house = painted(*[RED] * 59)
        house.paint("hall", BLUE)
        self.assertEqual(len(house.book_now("hall")), 60)
        self.assert_stays(Full, house, "paint", "hall", BLUE)
        self.assert_stays(BadStroke, house, "paint", "hall", [0, 1, "red"])
        house.build("barn")
        house.paint("barn", BLUE)
        house.strip("hall", 0)
        house.paint("hall", RED)
        self.assert_stays(Full, house, "paint", "hall", RED)

    def test_refused(self):
        house = painted(RED)
        for name in NO_NAMES + ["barn", "halls", "hal"]:
            self.assert_stays(NoName, house, "paint", name, RED)
            self.assert_stays(NoName, house, "paint", name, None)
        for stroke in things.NO_STROKES:
            self.assert_stays(BadStroke, house, "paint", "hall", stroke)


class Look(HouseCase):
    def test_its_number_from_0(self):
        house = painted(RED)
        self.assert_same(house.look("hall", 0, 9), 0)
        self.assert_same(house.look("hall", 0, LAST), 1)
        house.paint("hall", BLUE)
        self.assert_same(house.look("hall", 4, 4), 2)
        self.assert_same(house.looks_now("hall"), ((1, 0, 9), (1, 0, LAST), (2, 4, 4)))
        house.build("barn")
        self.assert_same(house.look("barn", 0, 0), 0)
        self.assert_same(house.looks_now("barn"), ((0, 0, 0),))

    def test_at_most_twenty(self):
        house = painted(RED)
        for at in range(20):
            self.assert_same(house.look("hall", 0, at % 3), at)
        self.assert_stays(Full, house, "look", "hall", 0, 9)
        self.assert_stays(NoPlace, house, "look", "hall", 9, 0)
        self.assert_stays(NoName, house, "look", "barn", 0, 9)
        self.assert_same(house.wish("hall", (), {}), (0, ()))

    def test_refused(self):
        house = painted(RED)
        for name in NO_NAMES + ["barn"]:
            self.assert_stays(NoName, house, "look", name, 0, 9)
            self.assert_stays(NoName, house, "look", name, 9, None)
        for thing in things.NO_PLACES:
            self.assert_stays(NoPlace, house, "look", "hall", thing, LAST)
            self.assert_stays(NoPlace, house, "look", "hall", 0, thing)
            self.assert_stays(NoPlace, house, "look", "hall", thing, thing)
        self.assert_stays(NoPlace, house, "look", "hall", 1, 0)
        self.assert_stays(NoPlace, house, "look", "hall", LAST, LAST - 1)


class Wish(HouseCase):
    def test_a_least_laying(self):
        house = painted(RED, BLUE)
        told = house.wish("hall", FEW, {"a": 4})
        self.assert_same(told[0], 4)
        self.assertEqual(house.book_now("hall"), laid(Book([RED, BLUE]), told[1]))
        self.assert_same(house.spent_now("hall"), 4)

    def test_right_for_the_looks(self):
        house = painted(RED, BLUE)
        house.look("hall", 6, 6)
        self.assert_same(house.wish("hall", FEW, {"a": 4})[0], 8)
        self.assert_same([entry[:2] for entry in shown(house.book_now("hall"), house.looks_now("hall")[0])], [(6, 6)])
        self.assertEqual(house.book_now("hall").strokes()[shown(house.book_now("hall"), house.looks_now("hall")[0])[0][2]], RED)

    def test_looks_are_led_over(self):
        house = painted(RED, BLUE)
        house.look("hall", 0, 1)
        house.paint("hall", (20, 20, "red"))
        house.look("hall", 20, 20)
        price, laying = house.wish("hall", FEW, ONES)
        self.assertEqual(price, 1)
        more = len([part for part in laying if part[0] < 2])
        self.assert_same(house.looks_now("hall"), ((2 + more, 0, 1), (3 + len([part for part in laying if part[0] < 3]), 20, 20)))

    def test_what_is_spent(self):
        house = painted(RED)
        for many in range(1, 4):
            house.wish("hall", ((many, many, "a"),), {"a": 5})
            self.assert_same(house.spent_now("hall"), 5 * many)
        house.wish("hall", (), {})
        self.assert_same(house.spent_now("hall"), 15)
        house.drop("hall")
        house.build("hall")
        self.assert_same(house.spent_now("hall"), 0)

    def test_open_wishes_fall(self):
        house = painted(RED)
        house.build("barn")
        house.lay("hall", "ann", ((1, 1, "a"),))
        house.lay("barn", "ann", ((1, 1, "a"),))
        self.assert_stays(BadPrices, house, "wish", "hall", FEW, {})
        self.assertEqual(len(house.open_now("hall")), 1)
        house.wish("hall", (), {})
        self.assert_same(house.open_now("hall"), ())
        self.assert_same(house.open_now("barn"), (("ann", ((1, 1, "a"),)),))
        self.assert_stays(NoWish, house, "grant", "hall", ONES)

    def test_refused(self):
        house = painted(RED)
        house.look("hall", 0, 3)
        for prices in things.NO_PRICES:
            self.assert_stays(BadPrices, house, "wish", "hall", (), prices)
            self.assert_stays(BadPrices, house, "wish", None, None, prices)
        for name in NO_NAMES + ["barn"]:
            self.assert_stays(NoName, house, "wish", name, (), {})
            self.assert_stays(NoName, house, "wish", name, None, {})
        for wish in things.NO_WISHES:
            self.assert_stays(BadWish, house, "wish", "hall", wish, {})
        for wish in (((0, 1, "red"),), ((0, 1, "a"), (2, 3, "b"))):
            self.assert_stays(BadPrices, house, "wish", "hall", wish, {"a": 1})

    def test_more_than_forty_runs(self):
        strokes, wish = striped(15)
        house = painted(*strokes)
        self.assertEqual(house.wish("hall", wish, ONES)[0], 12)
        strokes, wish = striped(16)
        house = painted(*strokes)
        self.assert_stays(Full, house, "wish", "hall", wish, ONES)
        self.assert_stays(Full, house, "wish", "hall", wish, {})
        self.assert_stays(BadPrices, house, "wish", "hall", wish, None)

    def test_strokes_and_runs_sixty_and_sixty_one(self):
        house = painted(*[(at, at, "b") for at in range(20)] + [WIDE] * 36)
        # 56 strokes, and 3 runs.
        wish = ((5, 5, "a"),)
        self.assertEqual(len(runs(house.book_now("hall"), wish)), 3)
        house.paint("hall", WIDE)
        other = house.copy()
        self.assertEqual(house.wish("hall", wish, ONES)[0], 1)
        self.assertEqual(len(house.book_now("hall")), 58)
        other.paint("hall", WIDE)
        self.assert_stays(Full, other, "wish", "hall", wish, ONES)
        self.assert_stays(Full, other, "wish", "hall", wish, {})
        self.assert_stays(BadWish, other, "wish", "hall", ((5, 5, "A"),), {})
        self.assertEqual(other.wish("hall", (), {}), (0, ()))
        other.paint("hall", WIDE)
        self.assertEqual(other.wish("hall", (), {}), (0, ()))
        other.paint("hall", WIDE)
        self.assert_stays(Full, other, "wish", "hall", (), {})
        other.lay("hall", "ann", ())
        self.assert_stays(Full, other, "grant", "hall", {})

    def test_looks_count_for_full(self):
        strokes, wish = striped(15)
        wish = wish[:11] + ((22, 29, "a"),)
        house = painted(*strokes)
        self.assertEqual(len(runs(house.book_now("hall"), wish)), 39)
        house.look("hall", 24, 26)
        self.assert_stays(Full, house, "wish", "hall", wish, ONES)


class Strip(HouseCase):
    def test_what_lies_beneath_is_seen(self):
        house = painted(RED, BLUE, WIDE)
        self.assertIsNone(house.strip("hall", 2))
        self.assert_same(house.book_now("hall").strokes(), (RED, BLUE))
        house.strip("hall", 0)
        self.assert_same(house.book_now("hall").strokes(), (BLUE,))

    def test_one_that_a_look_shows(self):
        house = painted(RED, BLUE, (20, 30, "a"))
        house.look("hall", 6, 12)
        house.look("hall", 4, 9)
        house.look("hall", 3, 5)
        self.assert_witnessed(house, "hall", 0, 0)
        self.assert_witnessed(house, "hall", 1, 1)
        self.assertIsNone(house.strip("hall", 2))

    def test_one_that_is_hidden_now(self):
        house = painted(BLUE)
        house.look("hall", 0, 3)
        house.paint("hall", RED)
        self.assert_witnessed(house, "hall", 0, 0)
        house.look("hall", 0, 9)
        self.assert_witnessed(house, "hall", 1, 1)

    def test_one_that_was_hidden_then(self):
        house = painted(BLUE, RED)
        house.look("hall", 0, 9)
        self.assertIsNone(house.strip("hall", 0))
        self.assert_same(house.looks_now("hall"), ((1, 0, 9),))
        self.assert_same(shown(house.book_now("hall"), (1, 0, 9)), ((0, 9, 0),))

    def test_one_that_is_later_than_the_look(self):
        house = painted(RED)
        house.look("hall", 0, 9)
        house.paint("hall", BLUE)
        self.assertIsNone(house.strip("hall", 1))
        self.assert_same(house.looks_now("hall"), ((1, 0, 9),))
        self.assert_witnessed(house, "hall", 0, 0)

    def test_the_moments_of_looks(self):
        house = painted((20, 20, "a"), (21, 21, "a"))
        house.look("hall", 0, 0)
        house.paint("hall", (22, 22, "a"))
        house.look("hall", 0, 0)
        house.strip("hall", 1)
        self.assert_same(house.looks_now("hall"), ((1, 0, 0), (2, 0, 0)))
        house.strip("hall", 1)
        self.assert_same(house.looks_now("hall"), ((1, 0, 0), (1, 0, 0)))
        house.strip("hall", 0)
        self.assert_same(house.looks_now("hall"), ((0, 0, 0), (0, 0, 0)))

    def test_one_that_a_wish_put_in(self):
        house = painted(RED, BLUE)
        house.look("hall", 6, 6)
        _, laying = house.wish("hall", ((2, 2, "a"),), ONES)
        self.assertIsNone(house.strip("hall", laying[0][0]))
        self.assertEqual(house.book_now("hall"), Book([RED, BLUE]))
        self.assert_same(house.looks_now("hall"), ((2, 6, 6),))
        self.assert_same(house.spent_now("hall"), 1)

    def test_refused(self):
        house = painted(RED, BLUE)
        for name in NO_NAMES + ["barn"]:
            self.assert_stays(NoName, house, "strip", name, 0)
            self.assert_stays(NoName, house, "strip", name, None)
        for number in things.ANYTHING + [2, 3, LAST, "red", RED]:
            self.assert_stays(NoStroke, house, "strip", "hall", number)
        house.build("barn")
        self.assert_stays(NoStroke, house, "strip", "barn", 0)


class Open(HouseCase):
    def test_laid_and_withdrawn(self):
        house = painted(RED)
        self.assertIsNone(house.lay("hall", "cy", ((5, 6, "a"),)))
        self.assertIsNone(house.lay("hall", "ann", ((0, 1, None), (9, 9, "b"))))
        self.assertIsNone(house.lay("hall", "bob", ()))
        self.assert_same(house.open_now("hall"),
                         (("ann", ((0, 1, None), (9, 9, "b"))), ("bob", ()), ("cy", ((5, 6, "a"),))))
        self.assertEqual(house.book_now("hall"), Book([RED]))
        self.assertIsNone(house.withdraw("hall", "bob"))
        self.assertIsNone(house.withdraw("hall", "cy"))
        self.assert_same(house.open_now("hall"), (("ann", ((0, 1, None), (9, 9, "b"))),))

    def test_a_hand_twice(self):
        house = painted(RED)
        house.build("barn")
        house.lay("hall", "ann", ((5, 6, "a"),))
        self.assert_stays(Twice, house, "lay", "hall", "ann", ((7, 7, "a"),))
        self.assert_stays(Twice, house, "lay", "hall", "ann", None)
        house.lay("barn", "ann", ((5, 6, "a"),))
        house.withdraw("hall", "ann")
        house.lay("hall", "ann", ((7, 7, "a"),))
        self.assert_same(house.open_now("hall"), (("ann", ((7, 7, "a"),)),))

    def test_wishes_that_meet(self):
        house = painted(RED)
        house.lay("hall", "ann", ((5, 6, "a"), (9, 12, None)))
        for wish in (((5, 5, "a"),), ((6, 8, "a"),), ((0, LAST, "a"),), ((12, 12, "b"),), ((0, 1, "a"), (10, 11, None)),
                     ((9, 12, None),), ((5, 6, "a"),), ((5, 6, None),), ((5, 5, None),), ((9, 12, "b"),), ((0, 5, None),)):
            self.assert_stays(BadWish, house, "lay", "hall", "bob", wish)
        house.lay("hall", "bob", ((0, 4, "a"), (7, 8, "c"), (13, LAST, None)))
        self.assert_stays(BadWish, house, "lay", "hall", "cy", ((LAST, LAST, "b"),))

    def test_more_than_twelve_stretches_together(self):
        house = painted(RED)
        house.lay("hall", "ann", tuple((at, at, "a") for at in range(0, 14, 2)))
        house.lay("hall", "bob", tuple((at, at, "a") for at in range(1, 9, 2)))
        self.assert_stays(BadWish, house, "lay", "hall", "cy", ((20, 20, "a"), (21, 21, "a")))
        house.lay("hall", "cy", ((20, 20, "a"),))
        self.assert_stays(BadWish, house, "lay", "hall", "dan", ((21, 21, "a"),))
        house.lay("hall", "dan", ())
        self.assertEqual(len(house.open_now("hall")), 4)
        self.assertEqual(house.grant("hall", ONES)[0], 4)

    def test_granted(self):
        house = painted(RED, BLUE)
        house.lay("hall", "bob", ((6, 6, "a"),))
        house.lay("hall", "ann", ((2, 2, "a"), (20, 20, "b")))
        told = house.grant("hall", {"a": 4, "b": 2})
        self.assert_same(told[0], 6)
        self.assertEqual(house.book_now("hall"), laid(Book([RED, BLUE]), told[1]))
        self.assert_same(house.open_now("hall"), ())
        self.assert_same(house.spent_now("hall"), 6)
        self.assert_stays(NoWish, house, "grant", "hall", {"a": 4, "b": 2})

    def test_a_wish_of_none_is_open(self):
        house = painted(RED)
        house.lay("hall", "ann", ())
        self.assert_same(house.grant("hall", {}), (0, ()))
        self.assert_same(house.open_now("hall"), ())

    def test_they_stay_else(self):
        house = painted(RED)
        house.lay("hall", "ann", FEW)
        wanted = (("ann", FEW),)
        house.paint("hall", BLUE)
        house.look("hall", 0, 0)
        house.strip("hall", 1)
        house.mark("now")
        self.assert_same(house.open_now("hall"), wanted)
        house.grant("hall", ONES)
        self.assert_same(house.open_now("hall"), ())
        house.back("now")
        self.assert_same(house.open_now("hall"), wanted)
        house.drop("hall")
        house.build("hall")
        self.assert_same(house.open_now("hall"), ())

    def test_refused(self):
        house = painted(RED)
        house.lay("hall", "ann", FEW)
        for name in NO_NAMES + ["barn"]:
            self.assert_stays(NoName, house, "lay", name, "bob", ())
            self.assert_stays(NoName, house, "lay", name, None, None)
            self.assert_stays(NoName, house, "withdraw", name, "ann")
            self.assert_stays(NoName, house, "withdraw", name, None)
            self.assert_stays(NoName, house, "grant", name, ONES)
            self.assert_stays(NoName, house, "grant", name, {})
        for hand in NO_NAMES:
            self.assert_stays(BadName, house, "lay", "hall", hand, ())
            self.assert_stays(BadName, house, "lay", "hall", hand, None)
            self.assert_stays(NoHand, house, "withdraw", "hall", hand)
        self.assert_stays(NoHand, house, "withdraw", "hall", "bob")
        for wish in things.NO_WISHES:
            self.assert_stays(BadWish, house, "lay", "hall", "bob", wish)

    def test_grants_refused(self):
        house = painted(RED)
        house.build("barn")
        house.lay("hall", "ann", FEW)
        for prices in things.NO_PRICES:
            self.assert_stays(BadPrices, house, "grant", "hall", prices)
            self.assert_stays(BadPrices, house, "grant", "barn", prices)
            self.assert_stays(BadPrices, house, "grant", None, prices)
        self.assert_stays(NoWish, house, "grant", "barn", {})
        self.assert_stays(BadPrices, house, "grant", "hall", {})
        self.assert_stays(BadPrices, house, "grant", "hall", {"b": 1})
        strokes, wish = striped(16)
        house = painted(*strokes)
        house.lay("hall", "ann", wish[::2])
        house.lay("hall", "bob", wish[1::2])
        self.assert_stays(Full, house, "grant", "hall", {})
        house.strip("hall", 15)
        self.assert_stays(BadPrices, house, "grant", "hall", {})
        self.assert_same(house.grant("hall", ONES)[0], 12)


class Marks(HouseCase):
    def test_back_to_a_mark(self):
        house = painted(RED)
        house.look("hall", 0, 9)
        house.lay("hall", "ann", FEW)
        house.wish("hall", ((20, 20, "a"),), {"a": 3})
        house.lay("hall", "bob", FEW)
        wanted = told_of(house)
        self.assertIsNone(house.mark("old"))
        house.paint("hall", BLUE)
        house.look("hall", 0, 9)
        house.grant("hall", {"a": 5})
        house.build("barn")
        self.assertNotEqual(told_of(house), wanted)
        self.assertIsNone(house.back("old"))
        self.assertEqual(told_of(house), wanted)

    def test_twice_and_behind_drops(self):
        house = painted(RED)
        house.mark("one")
        house.drop("hall")
        house.build("barn")
        house.mark("two")
        for _ in range(3):
            house.back("one")
            self.assertEqual(house.walls_now(), ["hall"])
            house.paint("hall", BLUE)
            house.look("hall", 0, 0)
            house.drop("hall")
            house.back("one")
            self.assert_same(told_of(house), [("hall", (RED,), (), (), 0)])
            house.strip("hall", 0)
            house.back("two")
            self.assert_same(told_of(house), [("barn", (), (), (), 0)])
            house.paint("barn", RED)
        house.back("two")
        self.assert_same(told_of(house), [("barn", (), (), (), 0)])

    def test_marks_stay(self):
        house = House()
        house.mark("one")
        house.build("hall")
        house.mark("two")
        house.back("one")
        self.assert_stays(Twice, house, "mark", "two")
        self.assert_stays(Twice, house, "mark", "one")
        house.back("two")
        self.assertEqual(house.walls_now(), ["hall"])

    def test_looks_fall_with_going_back(self):
        house = painted(RED)
        house.mark("one")
        house.look("hall", 0, 9)
        self.assert_witnessed(house, "hall", 0, 0)
        house.back("one")
        self.assert_same(house.looks_now("hall"), ())
        house.strip("hall", 0)

    def test_refused(self):
        house = painted(RED)
        house.mark("old")
        for name in NO_NAMES:
            self.assert_stays(BadName, house, "mark", name)
            self.assert_stays(NoMark, house, "back", name)
        self.assert_stays(NoMark, house, "back", "hall")
        self.assert_stays(Twice, house, "mark", "old")


class Drop(HouseCase):
    def test_a_wall_goes(self):
        house = painted(RED)
        house.build("barn")
        self.assertIsNone(house.drop("hall"))
        self.assert_same(house.walls_now(), ["barn"])
        for ask in (house.book_now, house.looks_now, house.open_now, house.spent_now):
            self.assert_refused(NoName, ask, "hall")
        self.assert_stays(NoName, house, "drop", "hall")

    def test_refused(self):
        house = painted(RED)
        for name in NO_NAMES + ["barn"]:
            self.assert_stays(NoName, house, "drop", name)


class Batch(HouseCase):
    def assert_batch_stays(self, refusal, house, deeds, entries):
        before = told_of(house)
        log = house.log_now()
        told = self.assert_refused(refusal, house.batch, deeds)
        self.assertEqual(told_of(house), before, ascii(deeds)[:200])
        self.assertEqual(house.log_now(), log + ["batch"] + entries + ["refused"])
        return told

    def test_what_each_told(self):
        house = House()
        self.assert_same(house.batch([]), [])
        told = house.batch([("build", "hall"), ("paint", "hall", RED), ("look", "hall", 0, 0), ("look", "hall", 1, 1),
                            ("wish", "hall", ((20, 20, "a"),), {"a": 3}), ("lay", "hall", "ann", FEW), ("mark", "now"),
                            ("withdraw", "hall", "ann"), ("back", "now"), ("grant", "hall", {"a": 2}), ("drop", "hall"),
                            ("back", "now"), ("paint", "hall", BLUE), ("strip", "hall", 2)])
        self.assert_same([entry for entry in told if not isinstance(entry, tuple)],
                         [None, None, 0, 1] + [None] * 8)
        self.assertEqual([entry[0] for entry in told if isinstance(entry, tuple)], [3, 4])
        self.assertEqual(len(told), 14)
        self.assertEqual(house.log_now()[:2], ["batch", "done"])
        self.assertEqual(house.log_now()[2:], ["batch", "build", "done", "paint", "done", "look", "done", "look", "done",
                                               "wish", "done", "lay", "done", "mark", "done", "withdraw", "done", "back",
                                               "done", "grant", "done", "drop", "done", "back", "done", "paint", "done",
                                               "strip", "done", "done"])

    def test_refused_at_the_first_and_the_last(self):
        house = painted(RED)
        self.assert_batch_stays(Twice, house, [("build", "hall"), ("build", "barn")], ["build", "refused"])
        self.assert_batch_stays(Twice, house, [("build", "barn"), ("build", "hall")], ["build", "done", "build", "refused"])
        self.assert_batch_stays(NoName, house, [("paint", "hall", BLUE), ("drop", "hall"), ("paint", "hall", BLUE)],
                                ["paint", "done", "drop", "done", "paint", "refused"])
        self.assertEqual(house.walls_now(), ["hall"])

    def test_all_kinds_are_undone(self):
        house = painted(RED, BLUE)
        house.look("hall", 9, 9)
        house.lay("hall", "ann", FEW)
        house.mark("one")
        for deed in (("build", "barn"), ("paint", "hall", WIDE), ("look", "hall", 0, 0), ("wish", "hall", FEW, ONES),
                     ("strip", "hall", 1), ("drop", "hall"), ("lay", "hall", "bob", ()), ("withdraw", "hall", "ann"),
                     ("grant", "hall", ONES), ("mark", "two"), ("back", "one")):
            self.assert_batch_stays(NoMark, house, [deed, ("back", "no")], [deed[0], "done", "back", "refused"])
            self.assert_refused(NoMark, house.back, "two")
        house.mark("two")

    def test_the_marks_are_undone(self):
        house = painted(RED)
        self.assert_batch_stays(BadName, house, [("mark", "one"), ("mark", "")], ["mark", "done", "mark", "refused"])
        self.assert_stays(NoMark, house, "back", "one")
        house.mark("one")
        self.assert_batch_stays(NoName, house, [("drop", "hall"), ("back", "one"), ("drop", "x")],
                                ["drop", "done", "back", "done", "drop", "refused"])

    def test_witnessed_within(self):
        house = painted(RED, BLUE)
        house.look("hall", 4, 4)
        told = self.assert_batch_stays(Witnessed, house, [("look", "hall", 0, 0), ("strip", "hall", 0)],
                                       ["look", "done", "strip", "refused"])
        self.assertEqual(told.at, 1)

    def test_no_list(self):
        house = painted(RED)
        for thing in things.ANYTHING + [(("build", "barn"),), ("build", "barn"), "build", {"build": "barn"}, (), 0]:
            if isinstance(thing, list):
                continue
            self.assert_batch_stays(BadDeed, house, thing, [])

    def test_no_deed(self):
        house = painted(RED)
        odd = [thing for thing in things.ANYTHING] + [
            (), ("build",), ("build", "barn", "x"), ["build", "barn"], ("batch", []), ("batch",), ("batch", [], []), ("Build", "barn"),
            ("book_now", "hall"), ("copy",), ("walls_now",), ("log_now",), ("__init__",), ("_do", "build", ("barn",)), (None, "barn"),
            (("build",), "barn"), (["build"], "barn"), ({}, "barn"), (0, "barn"), ("", "barn"), "build barn", ("say", "walls"),
            ("build ", "barn"), ("buil", "barn"), ("paint", "hall"), ("done",), ("refused",),
        ]
        for deed, size in SIZES.items():
            odd += [(deed,) + ("hall",) * many for many in range(6) if many != size]
        for thing in odd:
            self.assert_batch_stays(BadDeed, house, [thing], [])
            self.assert_batch_stays(BadDeed, house, [("build", "barn"), thing, ("build", "barn")], ["build", "done"])

    def test_what_is_refused_first(self):
        # The next one is looked at when those ahead are done.
        house = painted(RED)
        self.assert_batch_stays(Twice, house, [("build", "hall"), None], ["build", "refused"])
        self.assert_batch_stays(BadDeed, house, [None, ("build", "hall")], [])

    def test_odd_things_within_deeds(self):
        house = painted(RED)
        for thing in NO_NAMES:
            self.assert_batch_stays(BadName, house, [("build", thing)], ["build", "refused"])
            self.assert_batch_stays(NoName, house, [("drop", thing)], ["drop", "refused"])

    def test_what_is_handed_in_is_not_changed_or_kept(self):
        house = painted(RED)
        prices = {"a": 3}
        deeds = [("wish", "hall", FEW, prices), ("build", "barn")]
        told = house.batch(deeds)
        self.assertEqual(deeds, [("wish", "hall", FEW, {"a": 3}), ("build", "barn")])
        deeds.clear()
        prices.clear()
        told.clear()
        self.assertEqual(house.walls_now(), ["barn", "hall"])
        self.assertEqual(house.log_now()[-6:], ["batch", "wish", "done", "build", "done", "done"])


class Told(HouseCase):
    def test_no_name(self):
        house = painted(RED)
        log = house.log_now()
        for name in NO_NAMES + ["barn", "halls"]:
            for ask in (house.book_now, house.looks_now, house.open_now, house.spent_now):
                self.assert_refused(NoName, ask, name)
        self.assertEqual(house.log_now(), log)

    def test_the_log(self):
        house = House()
        self.assert_same(house.log_now(), [])
        house.build("hall")
        self.assert_refused(Twice, house.build, "hall")
        # What is asked of the house is no deed.
        told_of(house)
        house.look("hall", 0, 0)
        self.assert_refused(NoMark, house.back, "x")
        self.assert_same(house.log_now(), ["build", "done", "build", "refused", "look", "done", "back", "refused"])
        house.mark("x")
        house.back("x")
        self.assertEqual(house.log_now()[8:], ["mark", "done", "back", "done"])

    def test_told_things_are_the_askers_own(self):
        house = painted(RED)
        house.look("hall", 0, 9)
        house.lay("hall", "ann", FEW)
        before = told_of(house)
        log = house.log_now()
        house.walls_now().append("barn")
        house.walls_now().clear()
        book = house.book_now("hall")
        book.put(0, BLUE)
        book.take(1)
        told = house.log_now()
        told.append("done")
        told.clear()
        self.assertEqual(told_of(house), before)
        self.assertEqual(house.log_now(), log)
        for ask in (house.looks_now, house.open_now, house.book_now):
            self.assertIsNot(ask("hall"), ask("hall"))

    def test_what_was_told_stays(self):
        house = painted(RED)
        book = house.book_now("hall")
        log = house.log_now()
        walls = house.walls_now()
        house.paint("hall", BLUE)
        house.drop("hall")
        self.assertEqual((book, log, walls), (Book([RED]), ["build", "done", "paint", "done"], ["hall"]))

    def test_told_layings_are_the_askers_own(self):
        house = painted(RED)
        told = house.wish("hall", FEW, ONES)
        self.assertIs(type(told), tuple)
        self.assertIs(type(told[1]), tuple)
        self.assertEqual(told, least(Book([RED]), FEW, ONES))

    def test_copies_go_on_by_themselves(self):
        house = painted(RED)
        house.look("hall", 0, 0)
        house.lay("hall", "ann", FEW)
        house.wish("hall", ((20, 20, "a"),), ONES)
        house.mark("old")
        other = house.copy()
        self.assertIs(type(other), House)
        self.assertEqual(told_of(other), told_of(house))
        self.assert_same(other.log_now(), [])
        before = told_of(house)
        log = house.log_now()
        other.paint("hall", BLUE)
        other.build("barn")
        other.mark("new")
        other.drop("hall")
        other.batch([])
        self.assertEqual(told_of(house), before)
        self.assertEqual(house.log_now(), log)
        self.assert_refused(NoMark, house.back, "new")
        house.drop("hall")
        other.back("old")
        self.assertEqual(told_of(other), before)
        self.assertEqual(house.walls_now(), [])
        self.assertEqual(other.log_now()[:2], ["paint", "done"])
        house.mark("new")
        other.back("new")
        self.assertEqual(other.walls_now(), ["barn", "hall"])

    def test_a_copy_of_a_copy_has_the_marks(self):
        house = painted(RED)
        house.mark("old")
        other = house.copy().copy()
        other.drop("hall")
        other.back("old")
        self.assertEqual(told_of(other), told_of(house))

    def test_by_the_names(self):
        house = House()
        house.build(name="hall")
        house.paint(stroke=RED, name="hall")
        self.assert_same(house.look(high=12, low=9, name="hall"), 0)
        self.assert_same(house.wish(prices={"a": 3}, wish=((20, 20, "a"),), name="hall")[0], 3)
        house.mark(name="old")
        house.lay(wish=FEW, hand="ann", name="hall")
        self.assert_same(house.grant(prices={"a": 3}, name="hall")[0], 6)
        house.back(name="old")
        house.lay(wish=FEW, hand="ann", name="hall")
        house.withdraw(hand="ann", name="hall")
        number = house.book_now("hall").strokes().index(RED)
        self.assertEqual(self.assert_refused(Witnessed, house.strip, number=number, name="hall").at, 0)
        self.assertEqual(house.batch(deeds=[("build", "barn")]), [None])
        self.assertEqual([house.book_now(name="barn"), house.looks_now(name="barn"), house.open_now(name="barn"),
                          house.spent_now(name="barn")], [Book(), (), (), 0])
        house.drop(name="barn")
        self.assertEqual(house.walls_now(), ["hall"])

    def test_two_houses(self):
        house = painted(RED)
        other = painted(BLUE)
        house.mark("old")
        self.assert_refused(NoMark, other.back, "old")
        self.assertEqual(other.book_now("hall"), Book([BLUE]))


class Histories(HouseCase):
    """Long drawn histories, held against a second telling."""

    def assert_plain(self, house, plain):
        self.assert_same(house.walls_now(), sorted(plain.walls))
        for name, wall in plain.walls.items():
            self.assert_same(house.book_now(name).strokes(), tuple(wall.strokes()))
            self.assert_same(house.looks_now(name), wall.moments())
            self.assert_same(house.open_now(name), tuple(sorted(wall.wishes.items(), key=lambda entry: entry[0])))
            self.assert_same(house.spent_now(name), wall.spent)
            for number, look in enumerate(wall.looks):
                # What a look showed when it was taken it shows at its moment as it is now.
                self.assertEqual(wall.seen_by(number), look[2])

    def do_one(self, house, plain, deed):
        """The very refusal comes that is due, or the deed is done as it is told; whether it was done is told."""
        due = plain.refusal(*deed)
        try:
            told = getattr(house, deed[0])(*deed[1:])
        except PastError as caught:
            self.assertEqual((type(caught), caught.at) if isinstance(due, tuple) else type(caught), due, deed)
            return False
        self.assertIsNone(due, deed)
        plain.do(deed[0], told, *deed[1:])
        return True

    def begun(self):
        house, plain = House(), by_history.Plain()
        for name in by_history.NAMES[:2]:
            self.assertTrue(self.do_one(house, plain, ("build", name)))
        return house, plain

    def test_drawn_ones(self):
        for seed in range(40):
            chance = random.Random(seed)
            house, plain = self.begun()
            log = house.log_now()
            for _ in range(100):
                deed = by_history.drawn_deed(chance)
                log += [deed[0], "done" if self.do_one(house, plain, deed) else "refused"]
                self.assert_plain(house, plain)
            self.assert_same(house.log_now(), log)

    def test_batches(self):
        done = 0
        for seed in range(40, 80):
            chance = random.Random(seed)
            house, plain = self.begun()
            log = house.log_now()
            for _ in range(40):
                deeds = [by_history.drawn_deed(chance) for _ in range(chance.randint(0, 4))]
                # A copy tells the same, so it tells what each deed is to tell.
                tried, told, entries = house.copy(), [], []
                due = None
                for deed in deeds:
                    try:
                        told.append(getattr(tried, deed[0])(*deed[1:]))
                    except PastError as caught:
                        due = type(caught)
                        break
                entries = ["batch"] + tried.log_now() + ["refused" if due else "done"]
                if due:
                    self.assert_refused(due, house.batch, deeds)
                else:
                    self.assert_same(house.batch(deeds), told)
                    for deed, what in zip(deeds, told):
                        self.assertIsNone(plain.refusal(*deed))
                        plain.do(deed[0], what, *deed[1:])
                    done += 1
                log += entries
                self.assert_plain(house, plain)
            self.assert_same(house.log_now(), log)
        self.assertGreater(done, 400)

    def test_copies(self):
        for seed in range(80, 100):
            chance = random.Random(seed)
            house, plain = self.begun()
            for _ in range(12):
                other = house.copy()
                before = told_of(other)
                for _ in range(8):
                    self.do_one(house, plain, by_history.drawn_deed(chance))
                self.assert_plain(house, plain)
                self.assertEqual(told_of(other), before)

    def test_each_wish_against_a_search(self):
        for seed in range(100, 112):
            chance = random.Random(seed)
            house = House()
            house.build("hall")
            for _ in range(6):
                low, high = by_layings.drawn_stretch(chance, [0, 1, 2, 3])
                house.paint("hall", (low, high, chance.choice("ab")))
                if chance.random() < 0.5:
                    house.look("hall", *by_layings.drawn_stretch(chance, [0, 1, 2, 3]))
                if len(house.book_now("hall")) < 5:
                    wish = by_layings.drawn_wish(chance, [0, 1, 2, 3], ["a", "b", None], 3)
                    prices = {"a": chance.randint(1, 3), "b": chance.randint(1, 3)}
                    strokes, looks = house.book_now("hall").strokes(), house.looks_now("hall")
                    self.assertEqual(house.wish("hall", wish, prices)[0],
                                     by_layings.cheapest(strokes, wish, looks, prices))

    def test_the_refusals_are_right_under_one(self):
        self.assertEqual(Witnessed.__bases__, (errors.PastError,))
        self.assertEqual(BadDeed.__bases__, (errors.PastError,))


if __name__ == "__main__":
    unittest.main()
