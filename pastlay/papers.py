"""Papers: tables by which no right laying is cheaper."""

from pastlay.least import Reckoning, ground_of, leasts
from pastlay.shapes import is_colour, is_from_to


def is_whole(thing):
    """Whether thing is a whole number."""
    return isinstance(thing, int) and not isinstance(thing, bool)


def is_over(ground, thing):
    """Whether thing is what a task may lie over: None, or a slot and a colour."""
    if thing is None:
        return True
    if not isinstance(thing, tuple) or len(thing) != 2:
        return False
    return is_from_to(thing[0], 0, ground.many_slots - 1) and is_colour(thing[1])


def is_task(ground, thing):
    """Whether thing is a task of these runs."""
    if not isinstance(thing, tuple) or len(thing) != 3:
        return False
    i, j, over = thing
    many = len(ground.stretches)
    return is_from_to(j, 0, many) and is_from_to(i, 0, j) and is_over(ground, over)


def is_entry(ground, thing):
    """Whether thing is a pair of a task of these runs and a whole number from 0 on."""
    if not isinstance(thing, tuple) or len(thing) != 2:
        return False
    return is_task(ground, thing[0]) and is_whole(thing[1]) and thing[1] >= 0


def told_by(ground, thing):
    """The numbers of a paper by its tasks, None where it is none by its form."""
    if not isinstance(thing, list) or not all([is_entry(ground, entry) for entry in thing]):
        return None
    told = {task: number for task, number in thing}
    # A task that stands in it twice has one number here.
    return told if len(told) == len(thing) else None


def holds(reckoning, task):
    """Whether the number of a task is no greater than what its ways come to, 0 where no run is wrong in it."""
    p = reckoning.ground.first_wrong(task)
    if p is None:
        return reckoning.told[task] == 0
    return reckoning.told[task] <= reckoning.comes_to(p, task)


def paper(book, wish, prices, *, looks=()):
    """The table's tasks with their leasts: a list of (task, number)."""
    told = leasts(ground_of(book, wish, prices, looks), prices)
    return [(task, number) for task, number in told.items()]


def is_paper(book, wish, prices, thing, bar, *, looks=()):
    """Whether thing is a paper that shows that no right laying is cheaper than the bar."""
    ground = ground_of(book, wish, prices, looks)
    told = told_by(ground, thing)
    if told is None or ground.whole not in told or not is_whole(bar) or told[ground.whole] < bar:
        return False
    reckoning = Reckoning(ground, prices, told)
    return all([holds(reckoning, task) for task in told])
