"""Wishes, walls, layings and leasts, told again place by place as the document's words tell them, for the tests."""

import heapq
import itertools
import random

from tests import by_place, things

LAST = things.LAST


def wished_at(wish, place):
    """The number of the stretch of the wish that lies over a place, None where it is firm."""
    for at, (low, high, _) in enumerate(wish):
        if low <= place <= high:
            return at
    return None


def is_under(giver, slot):
    return giver is None or giver < slot


def walled(strokes, wish, slot, looks, place):
    """Whether a place is a wall for the slot."""
    if wished_at(wish, place) is None and is_under(by_place.giver_at(strokes, place), slot):
        return True
    for moment, low, high in looks:
        if moment > slot and low <= place <= high and is_under(by_place.giver_at(strokes[:moment], place), slot):
            return True
    return False


def edges(*some):
    """The first places of all lots of places that are alike for things with (.., low, high, ..) in them."""
    found = {0}
    for row in some:
        for low, high in row:
            found |= {low, high + 1}
    return sorted(place for place in found if place <= LAST)


def edges_of(strokes, wish=(), looks=(), laying=()):
    return edges([stroke[:2] for stroke in strokes], [part[:2] for part in wish], [look[1:] for look in looks],
                 [part[1:3] for part in laying])


def entries(firsts, worth_at, low=0, high=LAST):
    """The (low, high, worth) from low to high, each as long as it can be; firsts are where the worth may change."""
    firsts = sorted({low} | {first for first in firsts if low <= first <= high})
    row = []
    for first, following in zip(firsts, firsts[1:] + [high + 1]):
        worth = worth_at(first)
        if row and row[-1][2] == worth:
            row[-1] = (row[-1][0], following - 1, worth)
        else:
            row.append((first, following - 1, worth))
    return row


def row_where(firsts, holds_at, low=0, high=LAST):
    """The places from low to high at which this holds, as a row."""
    return tuple((begin, end) for begin, end, holds in entries(firsts, holds_at, low, high) if holds)


def walls(strokes, wish, slot, looks):
    return row_where(edges_of(strokes, wish, looks), lambda place: walled(strokes, wish, slot, looks, place))


def wrong_at(strokes, wish, place):
    """The colour that a place is to show and doesn't, None where nothing is wrong."""
    at = wished_at(wish, place)
    if at is None or wish[at][2] == by_place.colour_at(strokes, place):
        return None
    return wish[at][2]


def wrong(strokes, wish):
    row = entries(edges_of(strokes, wish), lambda place: wrong_at(strokes, wish, place))
    return tuple(entry for entry in row if entry[2] is not None)


def laid(strokes, laying):
    """The laid strokes, each with the elder number or None: those at one slot one behind the other."""
    row = []
    for slot in range(len(strokes) + 1):
        row += [((low, high, colour), None) for at, low, high, colour in laying if at == slot]
        if slot < len(strokes):
            row.append((strokes[slot], slot))
    return row


def done_by(strokes, laying, moment):
    """The laid strokes that a look at this moment sees: elder ones before it, and those put in at slots less than it."""
    row = []
    for slot in range(moment):
        row += [((low, high, colour), None) for at, low, high, colour in laying if at == slot]
        row.append((strokes[slot], slot))
    return row


def elder_at(row, place):
    """What is seen: None where it is bare, an elder number, or "new"."""
    giver = by_place.giver_at([stroke for stroke, _ in row], place)
    if giver is None:
        return None
    return "new" if row[giver][1] is None else row[giver][1]


def broken(strokes, wish, laying, looks):
    after = laid(strokes, laying)
    painted = [stroke for stroke, _ in after]
    firsts = edges_of(strokes, wish, looks, laying)

    def is_off(place):
        at = wished_at(wish, place)
        if at is None:
            return elder_at(after, place) != by_place.giver_at(strokes, place)
        return wish[at][2] not in (None, by_place.colour_at(painted, place))

    found = [(-1, low, high) for low, high in row_where(firsts, is_off)]
    for number, (moment, low, high) in enumerate(looks):
        then = done_by(strokes, laying, moment)
        found += [(number, begin, end) for begin, end in row_where(
            firsts, lambda place: elder_at(then, place) != by_place.giver_at(strokes[:moment], place), low, high)]
    return found


def runs(strokes, wish, looks):
    def mark(place):
        shut = [walled(strokes, wish, slot, looks, place) for slot in range(len(strokes) + 1)]
        return by_place.giver_at(strokes, place), wished_at(wish, place), shut
    return tuple((low, high) for low, high, _ in entries(edges_of(strokes, wish, looks), mark))


class Tasks:
    """Tasks and their ways, word by word."""

    def __init__(self, strokes, wish, looks):
        self.strokes = strokes
        self.wish = wish
        self.runs = runs(strokes, wish, looks)
        self.slots = len(strokes)
        self.givers = [by_place.giver_at(strokes, low) for low, _ in self.runs]
        self.wished = [wished_at(wish, low) for low, _ in self.runs]
        self.shut = [[walled(strokes, wish, slot, looks, low) for slot in range(len(strokes) + 1)]
                     for low, _ in self.runs]
        self.whole = (0, len(self.runs), None)

    def shows(self, p, over):
        if over is not None and is_under(self.givers[p], over[0]):
            return over[1]
        return None if self.givers[p] is None else self.strokes[self.givers[p]][2]

    def wants(self, p):
        return None if self.wished[p] is None else self.wish[self.wished[p]][2]

    def first_wrong(self, task):
        for p in range(task[0], task[1]):
            if self.wants(p) is not None and self.wants(p) != self.shows(p, task[2]):
                return p
        return None

    def ways(self, task):
        """The pairs of tasks that the ways lead to, with p and the slot and e."""
        p = self.first_wrong(task)
        if p is None:
            return []
        found = []
        for slot in range(0 if task[2] is None else task[2][0], self.slots + 1):
            for e in range(p + 1, task[1] + 1):
                if is_under(self.givers[p], slot) and not any(self.shut[k][slot] for k in range(p, e)):
                    found.append((p, slot, e, (p + 1, e, (slot, self.wants(p))), (e, task[1], task[2])))
        return found

    def table(self, prices):
        found = {}

        def least_of(task):
            if task not in found:
                ways = self.ways(task)
                found[task] = min([prices[self.wants(p)] + least_of(inner) + least_of(onward)
                                   for p, _, _, inner, onward in ways], default=0)
            return found[task]

        least_of(self.whole)
        return found


def cheapest(strokes, wish, looks, prices):
    """The least price of a right laying, by a search through all that a wall may show while strokes come in.

    A wall is told as what its lots of like places show: None, an elder number, or a colour that was put in.
    """
    firsts = edges_of(strokes, wish, looks)
    givers = [[by_place.giver_at(strokes[:moment], place) for place in firsts] for moment in range(len(strokes) + 1)]
    colours = sorted({colour for _, _, colour in wish if colour is not None})

    def is_seen_right(done, wall):
        return all(wall[k] == givers[done][k] for moment, low, high in looks if moment == done
                   for k, place in enumerate(firsts) if low <= place <= high)

    def is_end(done, wall):
        if done < len(strokes):
            return False
        for k, place in enumerate(firsts):
            at = wished_at(wish, place)
            shows = strokes[wall[k]][2] if isinstance(wall[k], int) else wall[k]
            if (at is None and wall[k] != givers[done][k]) or (at is not None and wish[at][2] not in (None, shows)):
                return False
        return True

    def nexts(done, wall):
        if done < len(strokes):
            low, high, _ = strokes[done]
            painted = tuple(done if low <= place <= high else wall[k] for k, place in enumerate(firsts))
            # A look sees the wall when the elder strokes ahead of its moment are done, and nothing put in at its moment.
            if is_seen_right(done + 1, painted):
                yield 0, done + 1, painted
        for colour in colours:
            for begin, end in itertools.combinations(range(len(firsts) + 1), 2):
                yield prices[colour], done, wall[:begin] + (colour,) * (end - begin) + wall[end:]

    return search((0, (None,) * len(firsts)), is_end, nexts)


def search(begin, is_end, nexts):
    """The least cost of a way from the beginning to an end."""
    best = {begin: 0}
    queue = [(0, 0, begin)]
    count = itertools.count(1)
    while queue:
        cost, _, state = heapq.heappop(queue)
        if best[state] < cost:
            continue
        if is_end(*state):
            return cost
        for price, done, wall in nexts(*state):
            if cost + price < best.get((done, wall), cost + price + 1):
                best[(done, wall)] = cost + price
                heapq.heappush(queue, (cost + price, next(count), (done, wall)))
    return None


def all_layings(many_slots, stretches, colours, many):
    """Each laying of so many strokes."""
    parts = [(low, high, colour) for low, high in stretches for colour in colours]
    for slots in itertools.combinations_with_replacement(range(many_slots), many):
        for some in itertools.product(parts, repeat=many):
            yield tuple((slot,) + part for slot, part in zip(slots, some))


def drawn_stretch(chance, places):
    return tuple(sorted((chance.choice(places), chance.choice(places))))


def drawn_wish(chance, places, colours, most=12):
    """Stretches cut out of the places one behind the other, some left firm."""
    cuts = sorted(chance.sample(range(len(places) + 1), min(len(places) + 1, chance.randint(0, most) + 1)))
    wish = []
    for begin, end in zip(cuts, cuts[1:]):
        if chance.random() < 0.8:
            wish.append((places[begin], places[end - 1], chance.choice(colours)))
    return tuple(wish)


def drawn_looks(chance, places, length, most=3):
    return tuple((chance.randint(0, length),) + drawn_stretch(chance, places) for _ in range(chance.randint(0, most)))


def drawn_laying(chance, places, colours, length, most=3):
    some = [(chance.randint(0, length),) + drawn_stretch(chance, places) + (chance.choice(colours),)
            for _ in range(chance.randint(0, most))]
    return tuple(sorted(some, key=lambda part: part[0]))


def drawn(seed, many, places=5, strokes=4, stretches=4, looks=3, colours=("a", "b", "c"), most=3):
    """Walls with a wish, looks and a laying, the same ones each time: over the first places, or over the last ones."""
    chance = random.Random(seed)
    for at in range(many):
        least = 0 if at % 2 else LAST - places + 1
        some = list(range(least, least + places))
        length = chance.randint(0, strokes)
        book = [drawn_stretch(chance, some) + (chance.choice(colours),) for _ in range(length)]
        yield (book, drawn_wish(chance, some, colours + (None,), stretches), drawn_looks(chance, some, length, looks),
               drawn_laying(chance, some, colours, length, most))


def parted(strokes, wish, first, second):
    """Whether a firm place between two places is bare or has a giver no greater than the greater one of theirs."""
    most = max((-1 if giver is None else giver) for giver in
               (by_place.giver_at(strokes, first), by_place.giver_at(strokes, second)))
    places = [place for place in edges_of(strokes, wish) + [first + 1] if first < place < second]
    return any(wished_at(wish, place) is None and is_under(by_place.giver_at(strokes, place), most + 1)
               for place in places)


def are_bars(strokes, wish, places):
    """Whether these places are bars: the wish tells one colour alone."""
    if any(wrong_at(strokes, wish, place) is None for place in places):
        return False
    return all(first < second and parted(strokes, wish, first, second)
               for first, second in itertools.combinations(places, 2))


def one_colour(wish, colour="a"):
    """The same stretches with this colour in the place of each."""
    return tuple((low, high, None if told is None else colour) for low, high, told in wish)
