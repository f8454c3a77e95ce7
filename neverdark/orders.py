"""Orders: in which order some deeds are finished first."""

from heapq import heappop, heappush

from neverdark.realms import are_allowed
from neverdark.tables import most_delays, run_table, table_of_rows
from neverdark.waits import Ground, ground_rows


class Task:
    """The deeds that are to be put in order, with their bounds, from a start up to an end."""

    def __init__(self, realm, state, deeds, bounds, end):
        self.state = state
        self.deeds = deeds
        self.bounds = bounds
        self.ground = Ground(realm, end)


def picked(values, numbers):
    """Return the tuple of the values with these numbers, counted from 1."""
    return tuple([values[number - 1] for number in numbers])


def last_done(task, numbers, is_whole):
    """Return when the last of these deeds is done at the latest, or None if they have no least table.

    The deeds are allowed one after another. They are a whole row of deeds, or a beginning of one.
    """
    bounds = picked(task.bounds, numbers)
    rows = ground_rows(task.ground, task.state, picked(task.deeds, numbers), is_whole)
    table = table_of_rows(rows, bounds)
    if table is None:
        return None
    return run_table(table, bounds, most_delays(bounds))[1][-1]


def finish_of(task, order):
    """Return the finish of an order, or None if it has none."""
    return last_done(task, order, True)


def bound_of(task, beginning):
    """Return the bound of a beginning, or None if it has none."""
    left = [most for k, (_, most) in enumerate(task.bounds, start=1) if k not in beginning]
    moment = last_done(task, beginning, False)
    return None if moment is None else moment + len(left) + sum(left)


def keeps_pairs(before, order):
    """Tell if the first number of each pair stands before the second one in the order."""
    return all([order.index(i) < order.index(j) for i, j in before])


def is_possible(realm, state, deeds, before, order):
    """Tell if the order keeps the pairs, and its deeds are allowed one after another."""
    return keeps_pairs(before, order) and are_allowed(realm, state, picked(deeds, order))


def finish(realm, state, deeds, bounds, end, order):
    """Return the finish of an order, or None if it has no least table."""
    return finish_of(Task(realm, state, deeds, bounds, end), order)


def bound(realm, state, deeds, bounds, end, beginning):
    """Return a moment before which no order with this beginning is finished, or None if none has a finish."""
    return bound_of(Task(realm, state, deeds, bounds, end), beginning)


def longer(task, before, beginning):
    """Return the beginnings with one more deed that the pairs and the deeds before it let come next."""
    found = []
    for k in range(1, len(task.deeds) + 1):
        numbers = (*beginning, k)
        waits = any([j == k and i not in beginning for i, j in before])
        if k not in beginning and not waits and are_allowed(task.ground.realm, task.state, picked(task.deeds, numbers)):
            found.append(numbers)
    return found


def best_order(realm, state, deeds, bounds, end, before):
    """Return the possible order with the least finish, and the finish, or None if none has one."""
    task = Task(realm, state, deeds, bounds, end)
    # The beginning with the least bound goes first, of several the least tuple. So the first
    # whole order that is taken out is the best one: what is left in the queue can't be better.
    queue = [(0, ())]
    while queue:
        least, beginning = heappop(queue)
        if len(beginning) == len(deeds):
            return beginning, least
        for numbers in longer(task, before, beginning):
            moment = finish_of(task, numbers) if len(numbers) == len(deeds) else bound_of(task, numbers)
            if moment is not None:
                heappush(queue, (moment, numbers))
    return None
