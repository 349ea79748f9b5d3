"""Wishes, walls and gaps: points 9 and 10."""

import itertools
import random
import unittest

from pastlay.books import Book
from pastlay.errors import BadLook, BadWish, NoSlot
from pastlay.shapes import both, joined
from pastlay.wishes import firm, gaps, is_wish, walls, wrong
from tests import by_layings, by_place, cases, things

LAST = things.LAST
RED = (0, 9, "red")
BLUE = (3, 5, "blue")
WIDE = (0, LAST, "green")
BOOKS = [[], [RED], [RED, BLUE], [WIDE, BLUE], [BLUE, RED], [(0, 0, "a"), (LAST, LAST, "b"), WIDE]]


class WishesCase(cases.Case):
    def assert_wish(self, thing, answer):
        if is_wish(thing) is not answer:
            self.fail(f"is_wish of {ascii(thing)[:200]} is not {answer}")

    def assert_walls(self, book, strokes, wish, looks):
        for slot in range(len(strokes) + 1):
            why = (strokes, wish, slot, looks)
            wanted = by_layings.walls(strokes, wish, slot, looks)
            self.assert_same(walls(book, wish, slot, looks=looks), wanted, why)
            between = gaps(book, wish, slot, looks=looks)
            self.assertEqual(joined(between), between, why)
            self.assertEqual(both(between, wanted), (), why)
            self.assertEqual(joined(between + wanted), ((0, LAST),), why)


class IsWish(WishesCase):
    def test_wishes(self):
        for thing in things.WISHES:
            self.assert_wish(thing, True)

    def test_no_wishes(self):
        for thing in things.NO_WISHES:
            self.assert_wish(thing, False)

    def test_each_stretch_and_colour(self):
        for low, high in things.STRETCHES:
            for colour in things.COLOURS + [None]:
                self.assert_wish(((low, high, colour),), True)
        for thing in things.NO_COLOURS:
            if thing is not None:
                self.assert_wish(((0, 1, thing),), False)
        for low, high in [stretch for stretch in things.NEAR_STRETCHES if isinstance(stretch, tuple) and len(stretch) == 2]:
            self.assert_wish(((low, high, "red"),), False)
            self.assert_wish(((low, high, None),), False)

    def test_at_most_twelve(self):
        for many in range(16):
            self.assert_wish(tuple((at, at, "red") for at in range(many)), many <= 12)
            self.assert_wish(tuple((9 * at, 9 * at + 8, None) for at in range(many)), many <= 12)

    def test_side_by_side(self):
        self.assert_wish(((0, 4, "red"), (5, 9, "red")), True)
        self.assert_wish(((0, 4, "red"), (5, 9, "blue")), True)
        self.assert_wish(((0, 4, None), (5, 9, None)), True)

    def test_apart_and_rising(self):
        parts = [(low, high, "red") for low, high in itertools.combinations_with_replacement(range(4), 2)]
        for some in itertools.product(parts, repeat=3):
            self.assert_wish(some, some[0][1] < some[1][0] and some[1][1] < some[2][0])
        for first, second in itertools.product(parts, parts):
            self.assert_wish((first, second), first[1] < second[0])

    def test_what_is_told_is_a_truth(self):
        for thing in ((), ((0, 1, "red"),), None, [], 0, "red", (None,)):
            self.assertIs(type(is_wish(thing)), bool)

    def test_by_its_name(self):
        self.assertIs(is_wish(thing=((0, 1, "red"),)), True)


class Firm(WishesCase):
    def test_of_some(self):
        self.assert_same(firm(()), ((0, LAST),))
        self.assert_same(firm(((0, LAST, "red"),)), ())
        self.assert_same(firm(((0, LAST, None),)), ())
        self.assert_same(firm(((3, 5, "red"), (6, 9, None))), ((0, 2), (10, LAST)))
        self.assert_same(firm(((3, 5, "red"), (7, 9, None))), ((0, 2), (6, 6), (10, LAST)))
        self.assert_same(firm(((0, 0, "red"), (LAST, LAST, "red"))), ((1, LAST - 1),))
        self.assert_same(firm(((1, LAST, "red"),)), ((0, 0),))

    def test_place_by_place(self):
        for _, wish, _, _ in by_layings.drawn(1, 400, places=7, stretches=6):
            wanted = by_layings.row_where(by_layings.edges_of([], wish),
                                          lambda place: by_layings.wished_at(wish, place) is None)
            self.assert_same(firm(wish), wanted, wish)

    def test_no_wish(self):
        for thing in things.NO_WISHES:
            self.assert_refused(BadWish, firm, thing)

    def test_by_its_name(self):
        self.assert_same(firm(wish=((0, 5, "red"),)), ((6, LAST),))


class Wrong(WishesCase):
    def test_of_some(self):
        book = Book([RED, BLUE])
        self.assert_same(wrong(book, ((0, 9, "red"),)), ((3, 5, "red"),))
        self.assert_same(wrong(book, ((0, 9, "blue"),)), ((0, 2, "blue"), (6, 9, "blue")))
        self.assert_same(wrong(book, ((0, 12, "green"),)), ((0, 12, "green"),))
        self.assert_same(wrong(book, ((4, 4, "green"),)), ((4, 4, "green"),))
        self.assert_same(wrong(book, ((8, 12, "red"),)), ((10, 12, "red"),))

    def test_bare_places_are_wrong(self):
        self.assert_same(wrong(Book(), ((0, LAST, "red"),)), ((0, LAST, "red"),))
        self.assert_same(wrong(Book([RED]), ((LAST, LAST, "red"),)), ((LAST, LAST, "red"),))

    def test_nothing_is_wrong(self):
        book = Book([RED, BLUE])
        for wish in ((), ((0, 2, "red"), (3, 5, "blue"), (6, 9, "red")), ((0, LAST, None),), ((3, 5, None),), ((1, 1, "red"),)):
            self.assert_same(wrong(book, wish), (), wish)

    def test_over_a_seam_of_one_colour(self):
        book = Book([RED, BLUE])
        self.assert_same(wrong(book, ((2, 4, "green"), (5, 7, "green"))), ((2, 7, "green"),))
        self.assert_same(wrong(book, ((2, 4, "red"), (5, 7, "red"))), ((3, 5, "red"),))
        self.assert_same(wrong(book, ((2, 3, "red"), (4, 4, "red"), (5, 7, "red"))), ((3, 5, "red"),))
        self.assert_same(wrong(book, tuple((at, at, "a") for at in range(12))), ((0, 11, "a"),))

    def test_over_no_other_seam(self):
        book = Book([RED, BLUE])
        self.assert_same(wrong(book, ((2, 4, "green"), (5, 7, "a"))), ((2, 4, "green"), (5, 7, "a")))
        self.assert_same(wrong(book, ((2, 4, "green"), (6, 7, "green"))), ((2, 4, "green"), (6, 7, "green")))
        self.assert_same(wrong(book, ((2, 3, "green"), (4, 4, None), (5, 5, "green"))), ((2, 3, "green"), (5, 5, "green")))
        self.assert_same(wrong(book, ((0, 3, "blue"), (4, 9, "blue"))), ((0, 2, "blue"), (6, 9, "blue")))

    def test_strokes_of_one_colour_side_by_side(self):
        self.assert_same(wrong(Book([(2, 3, "a"), (4, 5, "a"), (6, 7, "b")]), ((0, 9, "b"),)), ((0, 5, "b"), (8, 9, "b")))

    def test_place_by_place(self):
        for strokes, wish, _, _ in by_layings.drawn(2, 1500, places=7, stretches=6):
            self.assert_same(wrong(Book(strokes), wish), by_layings.wrong(strokes, wish), (strokes, wish))
        chance = random.Random(3)
        for strokes in by_place.large_books():
            places = sorted({place for low, high, _ in strokes for place in (low, high)})
            wish = by_layings.drawn_wish(chance, places, ["a", "b", "red", None])
            self.assert_same(wrong(Book(strokes), wish), by_layings.wrong(strokes, wish), (strokes, wish))

    def test_no_wish(self):
        book = Book([RED])
        for thing in things.NO_WISHES:
            self.assert_refused(BadWish, wrong, book, thing)
        self.assertEqual(book, Book([RED]))

    def test_by_the_names(self):
        self.assert_same(wrong(wish=((8, 12, "red"),), book=Book([RED])), ((10, 12, "red"),))

    def test_behind_a_put_and_a_take(self):
        book = Book([RED])
        wish = ((2, 11, "red"),)
        self.assert_same(wrong(book, wish), ((10, 11, "red"),))
        book.put(1, BLUE)
        self.assert_same(wrong(book, wish), ((3, 5, "red"), (10, 11, "red")))
        book.take(0)
        book.put(0, (11, 20, "red"))
        self.assert_same(wrong(book, wish), ((2, 10, "red"),))


class Walls(WishesCase):
    def test_firm_places_beneath(self):
        book = Book([RED, BLUE])
        wish = ((4, 6, "green"),)
        self.assert_same(walls(book, wish, 0), ((10, LAST),))
        self.assert_same(walls(book, wish, 1), ((0, 2), (7, LAST)))
        self.assert_same(walls(book, wish, 2), ((0, 3), (7, LAST)))
        self.assert_same(gaps(book, wish, 0), ((0, 9),))
        self.assert_same(gaps(book, wish, 1), ((3, 6),))
        self.assert_same(gaps(book, wish, 2), ((4, 6),))

    def test_a_bare_place_is_less_than_slot_0(self):
        self.assert_same(walls(Book(), (), 0), ((0, LAST),))
        self.assert_same(gaps(Book(), (), 0), ())
        self.assert_same(walls(Book([RED]), (), 0), ((10, LAST),))
        self.assert_same(walls(Book([WIDE]), (), 0), ())
        self.assert_same(gaps(Book([WIDE]), (), 0), ((0, LAST),))
        self.assert_same(walls(Book([WIDE]), (), 1), ((0, LAST),))

    def test_the_whole_wished(self):
        for strokes in BOOKS:
            for slot in range(len(strokes) + 1):
                for colour in ("red", None):
                    self.assert_same(walls(Book(strokes), ((0, LAST, colour),), slot), ())
                    self.assert_same(gaps(Book(strokes), ((0, LAST, colour),), slot), ((0, LAST),))

    def test_looks(self):
        book = Book([RED, BLUE])
        whole = ((0, LAST, None),)
        # At moment 1 the places up to 9 showed stroke 0, the others nothing.
        look = (1, 2, 11)
        self.assert_same(walls(book, whole, 0, looks=(look,)), ((10, 11),))
        self.assert_same(walls(book, whole, 1, looks=(look,)), ())
        self.assert_same(walls(book, whole, 2, looks=(look,)), ())
        look = (2, 2, 11)
        self.assert_same(walls(book, whole, 0, looks=(look,)), ((10, 11),))
        self.assert_same(walls(book, whole, 1, looks=(look,)), ((2, 2), (6, 11)))
        self.assert_same(walls(book, whole, 2, looks=(look,)), ())
        self.assert_same(gaps(book, whole, 1, looks=(look,)), ((0, 1), (3, 5), (12, LAST)))

    def test_a_look_at_moment_0_is_no_wall(self):
        for strokes in BOOKS:
            for slot in range(len(strokes) + 1):
                self.assert_same(walls(Book(strokes), ((0, LAST, None),), slot, looks=((0, 0, LAST),)), ())
                self.assert_same(walls(Book(strokes), (), slot, looks=((0, 0, LAST),)), walls(Book(strokes), (), slot))

    def test_looks_alike_and_within_one_another(self):
        book = Book([RED, BLUE])
        whole = ((0, LAST, "red"),)
        look = (2, 2, 11)
        wanted = walls(book, whole, 1, looks=(look,))
        self.assert_same(walls(book, whole, 1, looks=(look,) * 20), wanted)
        self.assert_same(walls(book, whole, 1, looks=(look, (2, 6, 9), (2, 2, 2), (0, 0, LAST), (1, 0, LAST))), wanted)
        self.assert_same(walls(book, whole, 1, looks=((2, 11, 12), look)), ((2, 2), (6, 12)))

    def test_place_by_place(self):
        for strokes, wish, looks, _ in by_layings.drawn(4, 1200, places=7, strokes=5, stretches=6, looks=4):
            self.assert_walls(Book(strokes), strokes, wish, looks)

    def test_of_all_small_books(self):
        chance = random.Random(5)
        for strokes in by_place.small_books(2):
            places = sorted({0, 1, 2, 3, LAST - 3, LAST - 2, LAST - 1, LAST})
            wish = by_layings.drawn_wish(chance, places, ["a", "b", None], 5)
            looks = by_layings.drawn_looks(chance, places, len(strokes))
            self.assert_walls(Book(strokes), strokes, wish, looks)

    def test_of_large_books(self):
        chance = random.Random(6)
        for strokes in by_place.large_books():
            book = Book(strokes)
            places = sorted({place for low, high, _ in strokes for place in (low, high)})
            wish = by_layings.drawn_wish(chance, places, ["a", None])
            looks = tuple((chance.randint(0, len(strokes)),) + by_layings.drawn_stretch(chance, places) for _ in range(20))
            for slot in {0, 1, len(strokes) // 2, len(strokes)}:
                for some in ((), looks[:3], looks):
                    wanted = by_layings.walls(strokes, wish, slot, some)
                    self.assert_same(walls(book, wish, slot, looks=some), wanted, (strokes, wish, slot, some))

    def test_what_a_stroke_put_in_is_seen_at(self):
        # A stroke put in lies over just those walls that show another thing then.
        for strokes, wish, looks, laying in by_layings.drawn(8, 800, most=1):
            for slot, low, high, colour in laying:
                found = [part for part in by_layings.broken(strokes, (), ((slot, low, high, colour),), looks)]
                hit = both(walls(Book(strokes), (), slot, looks=looks), [(low, high)])
                self.assertEqual(joined([part[1:] for part in found]), hit, (strokes, looks, laying))

    def test_by_the_names(self):
        book = Book([RED, BLUE])
        self.assert_same(walls(looks=((2, 2, 11),), slot=1, wish=((0, LAST, None),), book=book), ((2, 2), (6, 11)))
        self.assert_same(gaps(slot=1, wish=((4, 6, "green"),), book=book), ((3, 6),))
        for act in (walls, gaps):
            with self.assertRaises(TypeError):
                act(book, (), 0, ())

    def test_behind_a_take_and_a_put_with_nothing_asked_between(self):
        strokes = [RED, BLUE, (8, 12, "red")]
        wish = ((4, 8, "a"),)
        looks = ((2, 1, 10), (3, 0, 20))
        for number, slot in itertools.product(range(3), range(3)):
            book = Book(strokes)
            self.assert_walls(book, strokes, wish, looks)
            book.take(number)
            book.put(slot, (4, 10, "green"))
            left = strokes[:number] + strokes[number + 1:]
            left = left[:slot] + [(4, 10, "green")] + left[slot:]
            self.assert_walls(book, left, wish, looks)
            book.put(0, WIDE)
            self.assert_walls(book, [WIDE] + left, wish, looks)

    def test_asking_changes_nothing(self):
        book = Book([RED, BLUE])
        walls(book, ((4, 6, "a"),), 1, looks=((1, 0, 3),))
        gaps(book, ((4, 6, "a"),), 1, looks=((1, 0, 3),))
        self.assertEqual(book, Book([RED, BLUE]))
        self.assertIsNot(walls(book, (), 2), walls(book, (), 2))


class Refused(WishesCase):
    def test_no_slot(self):
        for strokes in ([], [RED], [RED, BLUE]):
            book = Book(strokes)
            for slot in things.ANYTHING + [len(strokes) + 1, len(strokes) + 2, LAST, "red", (0,)]:
                for looks in ((), ((0, 0, LAST),)):
                    self.assert_refused(NoSlot, walls, book, (), slot, looks=looks)
                    self.assert_refused(NoSlot, gaps, book, ((0, 1, "red"),), slot, looks=looks)
            self.assertEqual(book, Book(strokes))

    def test_no_wish(self):
        book = Book([RED])
        for wish in things.NO_WISHES:
            self.assert_refused(BadWish, walls, book, wish, 0)
            self.assert_refused(BadWish, gaps, book, wish, 1, looks=((1, 0, 1),))

    def test_no_looks(self):
        book = Book([RED])
        for looks in things.NO_LOOKS_AT_ALL + [((2, 0, 1),), ((0, 0, 1), (2, 0, 1))]:
            self.assert_refused(BadLook, walls, book, (), 0, looks=looks)
            self.assert_refused(BadLook, gaps, book, ((0, 1, "a"),), 1, looks=looks)

    def test_twenty_one_looks(self):
        book = Book([RED])
        for many in (0, 20, 21, 40):
            looks = ((1, 0, 3),) * many
            if many <= 20:
                self.assert_walls(book, [RED], (), looks)
            else:
                self.assert_refused(BadLook, walls, book, (), 0, looks=looks)
                self.assert_refused(BadLook, gaps, book, (), 0, looks=looks)

    def test_which_comes_first(self):
        book = Book([RED])
        for act in (walls, gaps):
            for looks in (None, [], ((2, 0, 1),), (True,), "", 0, [(0, 0, 0)]):
                for wish in things.NO_WISHES[::40]:
                    self.assert_refused(BadLook, act, book, wish, -1, looks=looks)
                self.assert_refused(BadLook, act, book, (), 2, looks=looks)
            for wish in things.NO_WISHES[::40]:
                for slot in (-1, 2, None, True, "0", ()):
                    self.assert_refused(BadWish, act, book, wish, slot)


if __name__ == "__main__":
    unittest.main()
