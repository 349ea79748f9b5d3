"""A house told again: walls as rows of strokes and looks in time, and what each look saw, place by place."""

import copy
import itertools

from pastlay import errors
from tests import by_layings, things

LAST = things.LAST
# All that the drawn histories tell of walls parts them into these places and what lies between them.
PLACES = list(range(9)) + [LAST - 1, LAST]
ENDS = list(range(8)) + [LAST - 1, LAST]
IDS = itertools.count()


def is_name(thing):
    return type(thing) is str and 0 < len(thing) < 9 and set(thing) <= set("abcdefghijklmnopqrstuvwxyz")


def is_number(thing, least, most):
    return type(thing) is int and thing in range(least, most + 1)


def is_stretch(low, high):
    return is_number(low, 0, LAST) and is_number(high, low, LAST)


def is_stroke(thing):
    return type(thing) is tuple and len(thing) == 3 and is_stretch(*thing[:2]) and is_name(thing[2])


def is_wish(thing):
    if type(thing) is not tuple or len(thing) > 12:
        return False
    if not all(type(part) is tuple and len(part) == 3 and is_stretch(*part[:2]) and (part[2] is None or is_name(part[2]))
               for part in thing):
        return False
    return all(first[1] < second[0] for first, second in zip(thing, thing[1:]))


def are_prices(thing):
    return type(thing) is dict and all(is_name(key) and is_number(worth, 1, 999) for key, worth in thing.items())


class Wall:
    """A row in time of strokes, ("stroke", mark, (low, high, colour)), and looks, ("look", number)."""

    def __init__(self):
        self.row = []
        self.looks = []
        self.wishes = {}
        self.spent = 0

    def strokes(self, row=None):
        return [thing[2] for thing in (self.row if row is None else row) if thing[0] == "stroke"]

    def seen(self, row=None):
        """By places, the mark of the stroke that is seen when this row is done."""
        found = {}
        for thing in self.row if row is None else row:
            if thing[0] == "stroke":
                found.update({place: thing[1] for place in PLACES if thing[2][0] <= place <= thing[2][1]})
        return found

    def ahead(self, number):
        """The row up to a look."""
        return self.row[:self.row.index(("look", number))]

    def moments(self):
        return tuple((len(self.strokes(self.ahead(number))), low, high)
                     for number, (low, high, _) in enumerate(self.looks))

    def seen_by(self, number):
        low, high, _ = self.looks[number]
        return {place: mark for place, mark in self.seen(self.ahead(number)).items() if low <= place <= high}

    def put(self, laying):
        """Put strokes in just ahead of the elder strokes with the numbers of their slots, behind all looks there."""
        row = []
        slot = 0
        for thing in self.row + [("end",)]:
            if thing[0] != "look":
                row += [("stroke", next(IDS), part[1:]) for part in laying if part[0] == slot]
                slot += 1
            row.append(thing)
        self.row = row[:-1]

    def together(self):
        return tuple(sorted((part for wish in self.wishes.values() for part in wish), key=lambda part: part[0]))


class Plain:
    """What a house holds; refusal tells what is due for a deed, do does it, with what the house told."""

    def __init__(self):
        self.walls = {}
        self.marks = {}

    def wall(self, name):
        return self.walls.get(name) if is_name(name) else None

    def refusal(self, deed, *given):
        return getattr(self, "refuse_" + deed)(*given)

    def do(self, deed, told, *given):
        getattr(self, "do_" + deed)(told, *given)

    def refuse_build(self, name):
        return errors.BadName if not is_name(name) else errors.Twice if name in self.walls else None

    def do_build(self, told, name):
        assert told is None
        self.walls[name] = Wall()

    def refuse_paint(self, name, stroke):
        if self.wall(name) is None:
            return errors.NoName
        if not is_stroke(stroke):
            return errors.BadStroke
        return errors.Full if len(self.wall(name).strokes()) >= 60 else None

    def do_paint(self, told, name, stroke):
        assert told is None
        self.walls[name].row.append(("stroke", next(IDS), stroke))

    def refuse_look(self, name, low, high):
        if self.wall(name) is None:
            return errors.NoName
        if not is_stretch(low, high):
            return errors.NoPlace
        return errors.Full if len(self.wall(name).looks) >= 20 else None

    def do_look(self, told, name, low, high):
        wall = self.walls[name]
        assert told == len(wall.looks) and type(told) is int
        wall.row.append(("look", told))
        wall.looks.append((low, high, {place: mark for place, mark in wall.seen().items() if low <= place <= high}))

    def refuse_fulfilling(self, wall, wish, prices):
        runs = by_layings.runs(wall.strokes(), wish, wall.moments())
        if len(runs) > 40 or len(runs) + len(wall.strokes()) > 60:
            return errors.Full
        return errors.BadPrices if [part for part in wish if part[2] is not None and part[2] not in prices] else None

    def refuse_wish(self, name, wish, prices):
        if not are_prices(prices):
            return errors.BadPrices
        if self.wall(name) is None:
            return errors.NoName
        if not is_wish(wish):
            return errors.BadWish
        return self.refuse_fulfilling(self.wall(name), wish, prices)

    def do_wish(self, told, name, wish, prices):
        wall = self.walls[name]
        price, laying = told
        tasks = by_layings.Tasks(wall.strokes(), wish, wall.moments())
        assert price == tasks.table(prices)[tasks.whole] == sum(prices[part[3]] for part in laying), (price, laying)
        assert [part[0] for part in laying] == sorted(part[0] for part in laying)
        before = wall.seen()
        wall.put(laying)
        painted = {thing[1]: thing[2][2] for thing in wall.row if thing[0] == "stroke"}
        for place in PLACES:
            at = by_layings.wished_at(wish, place)
            if at is None:
                assert wall.seen().get(place) == before.get(place), (name, wish, told)
            elif wish[at][2] is not None:
                assert painted[wall.seen()[place]] == wish[at][2], (name, wish, told)
        wall.spent += price
        wall.wishes = {}

    def refuse_strip(self, name, number):
        if self.wall(name) is None:
            return errors.NoName
        wall = self.wall(name)
        if not is_number(number, 0, len(wall.strokes()) - 1):
            return errors.NoStroke
        mark = [thing for thing in wall.row if thing[0] == "stroke"][number][1]
        for at in range(len(wall.looks)):
            if mark in wall.seen_by(at).values():
                return errors.Witnessed, at
        return None

    def do_strip(self, told, name, number):
        assert told is None
        wall = self.walls[name]
        wall.row.remove([thing for thing in wall.row if thing[0] == "stroke"][number])

    def refuse_drop(self, name):
        return errors.NoName if self.wall(name) is None else None

    def do_drop(self, told, name):
        assert told is None
        del self.walls[name]

    def refuse_lay(self, name, hand, wish):
        if self.wall(name) is None:
            return errors.NoName
        if not is_name(hand):
            return errors.BadName
        wishes = self.wall(name).wishes
        if hand in wishes:
            return errors.Twice
        if not is_wish(wish) or len(wish) + sum(map(len, wishes.values())) > 12:
            return errors.BadWish
        for part, other in itertools.product(wish, self.wall(name).together()):
            if part[0] <= other[1] and other[0] <= part[1]:
                return errors.BadWish
        return None

    def do_lay(self, told, name, hand, wish):
        assert told is None
        self.walls[name].wishes[hand] = wish

    def refuse_withdraw(self, name, hand):
        if self.wall(name) is None:
            return errors.NoName
        return None if is_name(hand) and hand in self.wall(name).wishes else errors.NoHand

    def do_withdraw(self, told, name, hand):
        assert told is None
        del self.walls[name].wishes[hand]

    def refuse_grant(self, name, prices):
        if not are_prices(prices):
            return errors.BadPrices
        if self.wall(name) is None:
            return errors.NoName
        if not self.wall(name).wishes:
            return errors.NoWish
        return self.refuse_fulfilling(self.wall(name), self.wall(name).together(), prices)

    def do_grant(self, told, name, prices):
        self.do_wish(told, name, self.walls[name].together(), prices)

    def refuse_mark(self, name):
        return errors.BadName if not is_name(name) else errors.Twice if name in self.marks else None

    def do_mark(self, told, name):
        assert told is None
        self.marks[name] = copy.deepcopy(self.walls)

    def refuse_back(self, name):
        return None if is_name(name) and name in self.marks else errors.NoMark

    def do_back(self, told, name):
        assert told is None
        self.walls = copy.deepcopy(self.marks[name])


NAMES = ["hall", "barn", "x"]
HANDS = ["ann", "bob", "cy"]
ODD = [None, True, 0, "", "Hall", "hall ", "abcdefghi", ("hall",), ["hall"], {"hall": 1}, "-", "nobody"]


def drawn_stretch(chance):
    return by_layings.drawn_stretch(chance, ENDS)


def drawn_stroke(chance):
    return drawn_stretch(chance) + (chance.choice("abc"),)


def drawn_wish(chance, most=4):
    return by_layings.drawn_wish(chance, ENDS, ["a", "b", "c", None], most)


def drawn_prices(chance):
    return {colour: chance.randint(1, 5) for colour in "abc" if chance.random() < 0.97}


def drawn_deed(chance):
    """A deed's name and what it takes; a few of them odd."""
    deed = chance.choices(
        ["build", "paint", "look", "wish", "strip", "drop", "lay", "withdraw", "grant", "mark", "back"],
        [3, 12, 8, 6, 5, 0.3, 5, 1, 3, 1, 1])[0]
    name = chance.choice(NAMES)
    given = {
        "build": lambda: [name], "drop": lambda: [name], "paint": lambda: [name, drawn_stroke(chance)],
        "look": lambda: [name, *drawn_stretch(chance)], "wish": lambda: [name, drawn_wish(chance), drawn_prices(chance)],
        "strip": lambda: [name, chance.randint(0, 5)], "lay": lambda: [name, chance.choice(HANDS), drawn_wish(chance, 2)],
        "withdraw": lambda: [name, chance.choice(HANDS)], "grant": lambda: [name, drawn_prices(chance)],
        "mark": lambda: [chance.choice("mnop")], "back": lambda: [chance.choice("mnop")],
    }[deed]()
    if chance.random() < 0.04:
        given[chance.randrange(len(given))] = chance.choice(ODD)
    return (deed, *given)
