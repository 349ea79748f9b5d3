"""A desk: point 19."""

import random
import re
import unittest

from pastlay.desk import Desk
from pastlay.errors import (
    BadName, BadStroke, BadWish, Full, NoHand, NoMark, NoName, NoPlace, NoRow, NoStroke, NoWish, PastError, Twice,
    Witnessed)
from pastlay.house import House
from pastlay.seeing import giver
from pastlay.writing import read
from tests import cases, things

LAST = things.LAST
WORD = "([^ ]+)"
NUMBER = "(0|[1-9][0-9]{0,9})"
COLOUR = "([a-z]{1,8})"
WISH = "((?: (?:0|[1-9][0-9]{0,9}) (?:0|[1-9][0-9]{0,9}) (?:[a-z]{1,8}|-))+)"
FORMS = [
    f"(build) {WORD}", f"(paint) {WORD} {NUMBER} {NUMBER} {COLOUR}", f"(strip) {WORD} {NUMBER}", f"(drop) {WORD}",
    f"(mark) {WORD}", f"(back) {WORD}", f"(lay) {WORD} {WORD}{WISH}", f"(withdraw) {WORD} {WORD}",
    f"(look) {WORD} {NUMBER} {NUMBER}", f"(wish) {WORD}{WISH}", f"(grant) {WORD}", f"(book) {WORD}",
    f"(at) {WORD} {NUMBER}", f"(who) {WORD} {NUMBER}", f"(looks) {WORD}", f"(open) {WORD}", "(walls)", f"(spent) {WORD}",
]


def wish_of(text):
    words = text.split()
    return tuple((int(words[at]), int(words[at + 1]), None if words[at + 2] == "-" else words[at + 2])
                 for at in range(0, len(words), 3))


def ones(wish):
    return {part[2]: 1 for part in wish if part[2] is not None}


def answer(house, row):
    """What a desk with this house is to answer."""
    found = [match.groups() for match in (re.fullmatch(form, row) for form in FORMS) if match]
    if not found:
        raise NoRow("no row")
    word, *given = found[0]
    name = given[0] if given else None
    if word in ("build", "drop", "mark", "back", "withdraw"):
        getattr(house, word)(*given)
    elif word == "paint":
        house.paint(name, (int(given[1]), int(given[2]), given[3]))
    elif word == "strip":
        house.strip(name, int(given[1]))
    elif word == "lay":
        house.lay(name, given[1], wish_of(given[2]))
    else:
        return told(house, word, name, given[1:])
    return "ok"


def told(house, word, name, given):
    if word == "look":
        return str(house.look(name, int(given[0]), int(given[1])))
    if word == "wish":
        return str(house.wish(name, wish_of(given[0]), ones(wish_of(given[0])))[0])
    if word == "grant":
        return str(house.grant(name, ones([part for _, wish in house.open_now(name) for part in wish]))[0])
    if word == "spent":
        return str(house.spent_now(name))
    if word in ("at", "who"):
        book = house.book_now(name)
        number = giver(book, int(given[0]))
        return "-" if number is None else str(number) if word == "who" else book.strokes()[number][2]
    some = {
        "book": lambda: [str(house.book_now(name))], "walls": house.walls_now,
        "looks": lambda: [":".join(map(str, look)) for look in house.looks_now(name)],
        "open": lambda: [hand for hand, _ in house.open_now(name)],
    }[word]()
    return " ".join(some) or "-"


def asked(desk):
    """All that a desk tells of its walls."""
    walls = desk.say("walls").split(" ")
    return [walls] + [desk.say(f"{word} {name}") for name in walls if name != "-"
                      for word in ("book", "looks", "open", "spent")]


class DeskCase(cases.Case):
    def desk(self, *rows):
        """A desk to which these rows were said, each of which it answered by ok or a number."""
        desk = Desk()
        for row in rows:
            self.assertRegex(desk.say(row), r"\A(ok|[0-9]+)\Z", row)
        return desk

    def assert_said(self, desk, *rows):
        for row, wanted in rows:
            self.assert_same(desk.say(row), wanted, row)

    def assert_stays(self, refusal, desk, row):
        before = asked(desk)
        caught = self.assert_refused(refusal, desk.say, row)
        self.assertEqual(asked(desk), before, ascii(row)[:200])
        return caught


class Rows(DeskCase):
    def test_each_row(self):
        self.assert_said(
            Desk(), ("walls", "-"), ("build hall", "ok"), ("walls", "hall"), ("book hall", "-"), ("looks hall", "-"),
            ("open hall", "-"), ("spent hall", "0"), ("at hall 0", "-"), ("who hall 0", "-"), ("paint hall 0 9 red", "ok"),
            ("paint hall 3 5 blue", "ok"), ("book hall", "0 9 red / 3 5 blue"), ("at hall 4", "blue"), ("who hall 4", "1"),
            ("at hall 9", "red"), ("who hall 9", "0"), ("at hall 10", "-"), ("who hall 1000000000", "-"),
            ("look hall 7 7", "0"), ("look hall 0 1", "1"), ("looks hall", "2:7:7 2:0:1"), ("wish hall 2 2 a 6 6 a", "1"),
            ("book hall", "0 9 red / 2 6 a / 3 5 blue"), ("looks hall", "3:7:7 3:0:1"), ("spent hall", "1"),
            ("mark old", "ok"), ("lay hall bob 20 21 a 30 31 -", "ok"), ("lay hall ann 25 25 b", "ok"),
            ("open hall", "ann bob"), ("grant hall", "2"), ("open hall", "-"), ("spent hall", "3"), ("back old", "ok"),
            ("spent hall", "1"), ("lay hall bob 20 21 a", "ok"), ("withdraw hall bob", "ok"), ("open hall", "-"),
            ("strip hall 2", "ok"), ("book hall", "0 9 red / 2 6 a"), ("looks hall", "2:7:7 2:0:1"), ("build barn", "ok"),
            ("walls", "barn hall"), ("drop hall", "ok"), ("walls", "barn"), ("drop barn", "ok"), ("walls", "-"))

    def test_each_answer_is_a_text(self):
        desk = self.desk("build hall", "paint hall 0 9 red")
        for row in ("look hall 0 0", "wish hall 0 9 red", "spent hall", "who hall 3", "at hall 3", "mark x"):
            self.assertIs(type(desk.say(row)), str)

    def test_each_colour_at_1(self):
        desk = self.desk("build hall")
        self.assert_said(desk, ("wish hall 0 0 a 2 2 b 4 4 a", "3"), ("wish hall 0 0 a", "0"), ("wish hall 0 0 -", "0"),
                         ("wish hall 0 9 - 10 11 zzzzzzzz", "1"), ("spent hall", "4"))

    def test_twelve_stretches(self):
        row = "wish hall" + "".join(f" {2 * at} {2 * at} a" for at in range(12))
        self.assert_said(self.desk("build hall"), (row, "12"))
        self.assert_stays(BadWish, self.desk("build hall"), row + " 30 30 a")
        row = "lay hall ann" + "".join(f" {2 * at} {2 * at} a" for at in range(12))
        self.assert_said(self.desk("build hall"), (row, "ok"), ("grant hall", "12"))
        self.assert_stays(BadWish, self.desk("build hall"), row + " 30 30 a")

    def test_words_that_are_names(self):
        # A row's words may stand for names, too.
        desk = self.desk("build walls", "build build", "paint build 0 1 paint", "lay build lay 3 4 a", "mark mark")
        self.assert_said(desk, ("walls", "build walls"), ("at build 1", "paint"), ("open build", "lay"), ("back mark", "ok"))

    def test_by_its_name(self):
        self.assert_same(Desk().say(row="build hall"), "ok")

    def test_two_desks(self):
        desk = self.desk("build hall")
        self.assert_said(Desk(), ("walls", "-"))
        self.assert_said(desk, ("walls", "hall"))

    def test_the_book_can_be_read(self):
        desk = self.desk("build hall", "paint hall 0 1000000000 red", "paint hall 3 5 blue")
        self.assertEqual(read(desk.say("book hall")).strokes(), ((0, LAST, "red"), (3, 5, "blue")))


class NoRows(DeskCase):
    def test_words(self):
        desk = self.desk("build hall", "paint hall 0 9 red", "lay hall ann 3 4 a", "mark old")
        rows = ["build hal", "paint hall 0 9 red", "strip hall 0", "drop hall", "mark new", "back old", "lay hall bob 7 7 a",
                "withdraw hall ann", "look hall 0 9", "wish hall 3 4 a", "grant hall", "book hall", "at hall 3", "who hall 3",
                "looks hall", "open hall", "walls", "spent hall"]
        for row in rows:
            words = row.split(" ")
            for text in (row + " ", " " + row, row + "  ", "  " + row, row.replace(" ", "  ", 1) + " "):
                self.assert_stays(NoRow, desk, text)
            if len(words) > 1:
                self.assert_stays(NoRow, desk, row.replace(" ", "  ", 1))
                self.assert_stays(NoRow, desk, row.replace(" ", "\t", 1) if len(words) == 2 else " ".join(words[:-1]))
                self.assert_stays(NoRow, desk, words[0])
            self.assert_stays(NoRow, desk, row + " x")
            self.assert_stays(NoRow, desk, row + " 7 7")
            self.assert_stays(NoRow, desk, row.upper())
            self.assert_stays(NoRow, desk, row[1:])
            self.assert_stays(NoRow, desk, "x" + row)

    def test_no_words(self):
        desk = self.desk("build hall")
        for row in ("", " ", "  ", "\n", "\t", "-", "hall", "0", "copy", "batch", "log", "say walls", "walls_now", "build\nhall",
                    "Build hall", "help", "quit", "a" * 5000, " ".join(["build"] * 3000), "walls\n", "walls hall", "\u00e9"):
            self.assert_stays(NoRow, desk, row)

    def test_things_that_are_no_texts(self):
        desk = self.desk("build hall")
        for thing in things.ANYTHING + [("walls",), ["walls"], {"walls": 1}, 0, b"walls"]:
            self.assert_stays(NoRow, desk, thing)

    def test_numbers(self):
        desk = self.desk("build hall", "paint hall 0 9 red")
        for word in ("00", "01", "007", "-1", "-0", "+1", "1.0", "1e3", "x", "-", "0x1", "1_0", "12345678901", "00000000000",
                     "10000000000", "0" * 5000, "9" * 5000, "\u0663", "\u00b2", "1\n", "\uff11", "None", "True", "1,"):
            for row in ("at hall {}", "who hall {}", "strip hall {}", "look hall {} 9", "look hall 0 {}", "paint hall {} 9 a",
                        "paint hall 0 {} a", "wish hall {} 9 a", "wish hall 0 {} a", "lay hall ann {} 9 a",
                        "lay hall ann 0 {} a", "wish hall 0 1 a {} 9 a", "wish hall 0 1 a 3 {} a", "lay hall ann 0 1 a {} 9 -"):
                self.assert_stays(NoRow, desk, row.format(word))
                # Also of a wall that isn't there.
                self.assert_stays(NoRow, desk, row.format(word).replace("hall", "barn"))

    def test_colours(self):
        desk = self.desk("build hall", "paint hall 0 9 red")
        for word in ("Red", "abcdefghi", "red1", "1", "0", "--", "-red", "None", "\u00e9", "re-d", "/", "red\n", "_", "r.d"):
            for row in ("paint hall 0 9 {}", "wish hall 0 9 {}", "lay hall ann 0 9 {}", "wish hall 0 9 a 11 12 {}",
                        "lay hall ann 0 9 - 11 12 {}", "wish hall 0 9 {} 11 12 a"):
                self.assert_stays(NoRow, desk, row.format(word))
        self.assert_stays(NoRow, desk, "paint hall 0 9 -")
        self.assert_said(desk, ("wish hall 0 9 -", "0"), ("lay hall ann 0 9 -", "ok"))

    def test_a_wish_without_a_stretch(self):
        desk = self.desk("build hall")
        for row in ("wish hall", "lay hall ann", "wish hall 0", "wish hall 0 9", "lay hall ann 0", "lay hall ann 0 9", "lay hall",
                    "wish", "lay", "wish hall 0 9 a 0", "wish hall 0 9 a 0 9", "lay hall ann 0 9 a 0 9", "wish 0 9 a",
                    "lay hall 0 9 a", "wish hall -", "wish hall 0 9 a 11 12 a x"):
            self.assert_stays(NoRow, desk, row)

    def test_no_row_goes_ahead_of_all(self):
        desk = self.desk("build hall")
        for row in ("build Hall x", "paint barn 0 9 -", "at barn 01", "look barn 9 x", "wish barn", "mark Hall x",
                    "strip barn 01", "lay barn Ann 0 9", "back no no"):
            self.assert_stays(NoRow, desk, row)


class Refused(DeskCase):
    def test_names(self):
        desk = self.desk("build hall", "mark old")
        for word in ("Hall", "abcdefghi", "hall1", "0", "-", "h\tl", "hall\n", "\u00e9", "a" * 3000):
            self.assert_stays(BadName, desk, f"build {word}")
            self.assert_stays(BadName, desk, f"mark {word}")
            self.assert_stays(NoMark, desk, f"back {word}")
            self.assert_stays(BadName, desk, f"lay hall {word} 0 9 a")
            self.assert_stays(NoHand, desk, f"withdraw hall {word}")
            for row in ("paint {} 0 9 a", "strip {} 0", "drop {}", "lay {} ann 0 9 a", "withdraw {} ann", "look {} 0 9",
                        "wish {} 0 9 a", "grant {}", "book {}", "at {} 0", "who {} 0", "looks {}", "open {}", "spent {}"):
                self.assert_stays(NoName, desk, row.format(word))
                self.assert_stays(NoName, desk, row.format("barn"))
        self.assert_stays(Twice, desk, "build hall")
        self.assert_stays(Twice, desk, "mark old")

    def test_places(self):
        desk = self.desk("build hall")
        for word in ("1000000001", "9999999999", "2000000000"):
            self.assert_stays(NoPlace, desk, f"at hall {word}")
            self.assert_stays(NoPlace, desk, f"who hall {word}")
            self.assert_stays(NoPlace, desk, f"look hall 0 {word}")
            self.assert_stays(NoPlace, desk, f"look hall {word} {word}")
            self.assert_stays(BadStroke, desk, f"paint hall 0 {word} a")
            self.assert_stays(BadWish, desk, f"wish hall 0 {word} a")
            self.assert_stays(BadWish, desk, f"lay hall ann 0 {word} -")
            for row in ("at barn {}", "who barn {}", "look barn 0 {}", "paint barn 0 {} a", "wish barn 0 {} a"):
                self.assert_stays(NoName, desk, row.format(word))
        self.assert_said(desk, ("at hall 1000000000", "-"), ("look hall 0 1000000000", "0"))

    def test_high_below_low(self):
        desk = self.desk("build hall")
        self.assert_stays(NoPlace, desk, "look hall 9 8")
        self.assert_stays(BadStroke, desk, "paint hall 9 8 a")
        self.assert_stays(BadWish, desk, "wish hall 9 8 a")
        self.assert_stays(BadWish, desk, "lay hall ann 9 8 a")
        self.assert_stays(BadWish, desk, "wish hall 5 9 a 0 1 a")
        self.assert_stays(BadWish, desk, "wish hall 5 9 a 9 10 a")

    def test_the_stages_refusals(self):
        desk = self.desk("build hall", "paint hall 0 9 red", "look hall 3 4")
        self.assertEqual(self.assert_stays(Witnessed, desk, "strip hall 0").at, 0)
        self.assert_stays(NoStroke, desk, "strip hall 1")
        self.assert_stays(NoWish, desk, "grant hall")
        self.assert_stays(NoName, desk, "grant barn")
        self.assert_stays(NoHand, desk, "withdraw hall ann")
        desk.say("lay hall ann 0 1 a")
        self.assert_stays(Twice, desk, "lay hall ann 5 6 a")
        self.assert_stays(BadWish, desk, "lay hall bob 1 2 a")
        self.assert_stays(NoMark, desk, "back hall")

    def test_full(self):
        desk = self.desk("build hall", *["look hall 0 0"] * 20)
        self.assert_stays(Full, desk, "look hall 0 0")
        for _ in range(60):
            desk.say("paint hall 0 0 a")
        self.assert_stays(Full, desk, "paint hall 0 0 a")
        self.assert_stays(Full, desk, "wish hall 0 0 b")
        self.assert_stays(NoPlace, desk, "look hall 1 0")
        desk.say("lay hall ann 0 0 b")
        self.assert_stays(Full, desk, "grant hall")


class Histories(DeskCase):
    """Long drawn histories, held against a house to which the same is done."""

    def drawn_row(self, chance):
        name, hand, mark = chance.choice(["hall", "barn", "x"]), chance.choice(["ann", "bob"]), chance.choice("mn")
        low = chance.randint(0, 6)
        stretch = f"{low} {low + chance.randint(0, 3)}"
        wish = f"{stretch} {chance.choice('ab-')}" + chance.choice(["", f" {low + 5} 12 a", f" {low + 4} {low + 4} -"])
        return chance.choice([
            f"build {name}", f"paint {name} {stretch} {chance.choice('abc')}", f"paint {name} {stretch} {chance.choice('abc')}",
            f"strip {name} {chance.randint(0, 3)}", f"mark {mark}", f"back {mark}", f"lay {name} {hand} {wish}",
            f"withdraw {name} {hand}", f"look {name} {stretch}", f"wish {name} {wish}", f"grant {name}", f"book {name}",
            f"at {name} {low}", f"who {name} {low}", f"looks {name}", f"open {name}", "walls", f"spent {name}",
            f"drop {name}" if chance.random() < 0.2 else f"grant {name}"])

    def bent(self, chance, row):
        """A row with a word more, one fewer, or one otherwise."""
        words = row.split(" ")
        at = chance.randrange(len(words))
        kind = chance.randrange(4)
        if kind == 0:
            words.insert(at, chance.choice(["a", "0", "", "-", "hall"]))
        elif kind == 1:
            del words[at]
        else:
            words[at] = chance.choice(["a", "0", "", "-", "hall", "01", "Hall", "walls", "1000000001"])
        return " ".join(words)

    def test_drawn_ones(self):
        answers = set()
        for seed in range(40):
            chance = random.Random(seed)
            desk, house = Desk(), House()
            for name in ("hall", "barn"):
                self.assert_same(desk.say("build " + name), answer(house, "build " + name))
            for _ in range(150):
                row = self.drawn_row(chance)
                if chance.random() < 0.1:
                    row = self.bent(chance, row)
                try:
                    wanted = answer(house, row)
                except PastError as due:
                    caught = self.assert_stays(type(due), desk, row)
                    self.assertEqual(getattr(caught, "at", None), getattr(due, "at", None))
                    answers.add(type(due))
                else:
                    self.assert_same(desk.say(row), wanted, row)
                    answers.add(row.split(" ")[0])
        self.assertEqual(len([kind for kind in answers if isinstance(kind, str)]), 18)
        self.assertLessEqual({NoRow, NoName, Twice, NoMark, NoHand, NoWish, Witnessed, NoStroke, BadWish}, answers)


if __name__ == "__main__":
    unittest.main()
