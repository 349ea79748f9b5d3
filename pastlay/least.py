"""Runs, the table of their tasks, and layings of least price."""

from pastlay.errors import Full
from pastlay.layings import check_priced, check_prices
from pastlay.seeing import picture
from pastlay.wishes import barred, check_looks, check_wish, first_over

MOST_RUNS = 40


def pieces(book, wish, looks):
    """Stretches from 0 to LAST, each of places that are alike, in their order."""
    some = [entry[:2] for entry in picture(book)] + [part[:2] for part in wish]
    some += [entry[:2] for entry in barred(book, wish, looks)]
    edges = sorted(set([low for low, _ in some] + [high + 1 for _, high in some]))
    return [(edges[at], edges[at + 1] - 1) for at in range(len(edges) - 1)]


def over_place(entries, place):
    """The numbers of the entries (low, high, ..) that lie over a place."""
    return [at for at, entry in enumerate(entries) if entry[0] <= place <= entry[1]]


def marked(book, wish, looks):
    """The runs, each with what its places have in common: a list of (low, high, (giver, wished, shut))."""
    entries = picture(book)
    shut_ones = barred(book, wish, looks)
    row = []
    for low, high in pieces(book, wish, looks):
        number = entries[over_place(entries, low)[0]][2]
        shut = 0
        for at in over_place(shut_ones, low):
            # A slot is a wall here where its bit is 1.
            shut = shut | ((2 << shut_ones[at][3]) - (1 << shut_ones[at][2]))
        mark = (number, tuple(over_place(wish, low)), shut)
        if row and row[-1][2] == mark:
            row[-1] = (row[-1][0], high, mark)
        else:
            row.append((low, high, mark))
    return row


class Ground:
    """The runs of a book, a wish and looks, with all that a task asks of them."""

    def __init__(self, book, wish, looks):
        strokes = book.strokes()
        self.stretches = []
        self.firsts = []
        self.shows = []
        self.wants = []
        self.shut = []
        self.many_slots = len(strokes) + 1
        for low, high, (number, wished, shut) in marked(book, wish, looks):
            self.stretches.append((low, high))
            self.firsts.append(first_over(number))
            self.shows.append(None if number is None else strokes[number][2])
            self.wants.append(wish[wished[0]][2] if wished else None)
            self.shut.append(shut)
        self.whole = (0, len(self.stretches), None)
        self.free = [self.free_from(p) for p in range(len(self.stretches))]

    def free_from(self, p):
        """For each e from p + 1 on the slots above p's giver at which no run from p up to e - 1 is a wall."""
        rows = []
        slots = list(range(self.firsts[p], self.many_slots))
        for shut in self.shut[p:]:
            slots = [slot for slot in slots if not shut >> slot & 1]
            if not slots:
                break
            rows.append(slots)
        return rows

    def is_wrong(self, p, over):
        """Whether a run is wished with a colour and shows another one, or nothing, over this."""
        if self.wants[p] is None:
            return False
        if over is not None and self.firsts[p] <= over[0]:
            return over[1] != self.wants[p]
        return self.shows[p] != self.wants[p]

    def first_wrong(self, task):
        """The first wrong run of a task, None where there is none."""
        i, j, over = task
        for p in range(i, j):
            if self.is_wrong(p, over):
                return p
        return None

    def ends(self, p, task):
        """Each e of a task's ways, with the slots of all ways from run p on: those of the task from its own on."""
        _, j, over = task
        begin = first_slot(over)
        return [(p + 1 + at, slots) for at, slots in enumerate(self.free[p][:j - p]) if slots[-1] >= begin]


def first_slot(over):
    """The first slot that the ways of a task over this may have."""
    return 0 if over is None else over[0]


def all_tasks(ground):
    """Each task that the whole one leads to by ways, itself among them, with its first wrong run: a dict."""
    found = {ground.whole: ground.first_wrong(ground.whole)}
    left = [ground.whole]
    # From which slot on the tasks beneath strokes over some runs are found: else each would be found very often.
    known = {}
    while left:
        task = left.pop()
        p = found[task]
        if p is None:
            continue
        _, j, over = task
        begin = first_slot(over)
        some = []
        for e, slots in ground.ends(p, task):
            some.append((e, j, over))
            most = known.get((p, e), ground.many_slots)
            if begin < most:
                some += [(p + 1, e, (slot, ground.wants[p])) for slot in slots if begin <= slot < most]
                known[(p, e)] = begin
        for other in some:
            if other not in found:
                found[other] = ground.first_wrong(other)
                left.append(other)
    return found


class Reckoning:
    """What tasks come to by prices and the numbers of the tasks that their ways lead to, 0 where one has none."""

    def __init__(self, ground, prices, told):
        self.ground = ground
        self.prices = prices
        self.told = told
        self.beneath = {}

    def least_beneath(self, p, e):
        """By slots, the least number beneath a stroke over the runs from p up to e - 1 at this slot or a later one."""
        if (p, e) not in self.beneath:
            row = [None] * self.ground.many_slots
            for slot in self.ground.free[p][e - p - 1]:
                row[slot] = self.told.get((p + 1, e, (slot, self.ground.wants[p])), 0)
            for slot in reversed(range(len(row) - 1)):
                if row[slot] is None or (row[slot + 1] is not None and row[slot + 1] < row[slot]):
                    row[slot] = row[slot + 1]
            self.beneath[(p, e)] = row
        return self.beneath[(p, e)]

    def comes_to(self, p, task):
        """The price of the cheapest way of a task whose first wrong run is p."""
        _, j, over = task
        begin = first_slot(over)
        sums = [self.least_beneath(p, e)[begin] + self.told.get((e, j, over), 0) for e, _ in self.ground.ends(p, task)]
        return self.prices[self.ground.wants[p]] + min(sums)


def runs(book, wish, *, looks=()):
    """The longest stretches of places that are alike: a tuple."""
    check_looks(book, looks)
    check_wish(wish)
    return tuple([(low, high) for low, high, _ in marked(book, wish, looks)])


def ground_of(book, wish, prices, looks):
    """The runs with all that a task asks of them, where all that is handed in fits."""
    check_prices(prices)
    check_looks(book, looks)
    check_wish(wish)
    ground = Ground(book, wish, looks)
    if len(ground.stretches) > MOST_RUNS:
        raise Full("there are more than forty runs")
    check_priced([colour for _, _, colour in wish if colour is not None], prices)
    return ground


def leasts(ground, prices):
    """The table: each task that the whole one leads to, with its least."""
    told = {}
    reckoning = Reckoning(ground, prices, told)
    tasks = all_tasks(ground)
    # All that a task's ways lead to is shorter than it is, so the shorter ones go first.
    for task in sorted(list(tasks), key=lambda other: other[1] - other[0]):
        p = tasks[task]
        told[task] = 0 if p is None else reckoning.comes_to(p, task)
    return told


def cheapest_way(ground, told, p, task):
    """A way (slot, e) of least price of a task whose first wrong run is p."""
    _, j, over = task
    ways = [(slot, e) for e, slots in ground.ends(p, task) for slot in slots if slot >= first_slot(over)]
    return min(ways, key=lambda way: told[(p + 1, way[1], (way[0], ground.wants[p]))] + told[(way[1], j, over)])


def table(book, wish, prices, *, looks=()):
    """Each task that the whole one leads to by ways, with its least: a dict."""
    return leasts(ground_of(book, wish, prices, looks), prices)


def least(book, wish, prices, *, looks=()):
    """The least price of a right laying, and such a laying: a pair."""
    ground = ground_of(book, wish, prices, looks)
    told = leasts(ground, prices)
    strokes = []
    left = [ground.whole]
    while left:
        task = left.pop()
        p = ground.first_wrong(task)
        if p is None:
            continue
        slot, e = cheapest_way(ground, told, p, task)
        strokes.append((slot, ground.stretches[p][0], ground.stretches[e - 1][1], ground.wants[p]))
        left += [(e, task[1], task[2]), (p + 1, e, (slot, ground.wants[p]))]
    # Of strokes at one slot those within others come behind them, as they were found.
    return told[ground.whole], tuple(sorted(strokes, key=lambda part: part[0]))
