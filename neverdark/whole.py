"""The whole: cases, reports about them, and the play of a hand, a world and an asker."""

from neverdark.askers import run_history
from neverdark.errors import NotAllowed
from neverdark.hand import Hand
from neverdark.kinds import is_ascending, is_integer_in
from neverdark.orders import best_order
from neverdark.printer import table_text
from neverdark.realms import MAX_TIME, is_realm, is_state
from neverdark.rings import least_moments
from neverdark.tables import (are_delays, is_bounds, is_row_of_deeds, least_table, most_delays, plan_of,
                              run_table)
from neverdark.worlds import World


def are_pairs(count, pairs):
    """Tell if the pairs of numbers are such that no deed stands before itself."""
    if not is_ascending(pairs):
        return False
    if not all([is_integer_in(i, 1, count) and is_integer_in(j, 1, count) for i, j in pairs]):
        return False
    # A deed that stands before itself could not be done later than itself.
    return least_moments([(j, i, 1) for i, j in pairs], count) is not None


def is_case(raw):
    """Tell if the raw case is a case."""
    realm, state, deeds, bounds, before, end = raw
    if not is_realm(realm) or not is_state(realm, state) or not is_row_of_deeds(realm, state, deeds):
        return False
    return is_bounds(len(deeds), bounds) and are_pairs(len(deeds), before) and is_integer_in(end, 0, MAX_TIME)


def table_lines(case):
    """Return the lines of a report about the least table."""
    realm, state, deeds, bounds, _, end = case
    table = least_table(realm, state, deeds, bounds, end)
    if table is None:
        return ["no table"]
    lines = table_text(table).split("\n") if table else []
    first = run_table(table, bounds, tuple([least for least, _ in bounds]))[1][-1]
    last = run_table(table, bounds, most_delays(bounds))[1][-1]
    return [*lines, f"done {first} to {last}"]


def order_line(case):
    """Return the line of a report about the best order."""
    realm, state, deeds, bounds, before, end = case
    best = best_order(realm, state, deeds, bounds, end, before)
    if best is None:
        return "no order"
    order, moment = best
    numbers = " ".join([str(k) for k in order])
    return f"order {numbers} until {moment}"


def report(case):
    """Return the list of the lines of the report about a case."""
    return [*table_lines(case), order_line(case)]


def cut_book(book, count):
    """Return what a fall leaves of a book if it loses so many characters."""
    lines = book.split("\n")
    # The last one is what stands behind the last newline: nothing. Others act only on an
    # asked line that is in the book whole, so only a done line can be lost.
    if len(lines) < 2 or not lines[-2].startswith("done"):
        return book
    return book[:len(book) - min(count, len(lines[-2]) + 1)]


class Play:
    """A hand that follows a table, and others who do what it asks for."""

    def __init__(self, table, delays):
        self._table = table
        self._delays = delays
        self._hand = Hand(table, len(delays), "")
        # When the deeds that were asked for are done, in their order.
        self._moments = []

    def step(self, moment, falls):
        """Let a moment go by; `falls` is a dict from the moments of falls to their counts."""
        if self._moments and moment == self._moments[-1]:
            self._hand.see(moment)
        if moment in falls:
            book = cut_book(self._hand.book(), falls[moment])
            self._hand = Hand(self._table, len(self._delays), book)
        self._act(moment)

    def result(self, deeds):
        """Return the plan of the deeds that were asked for."""
        return plan_of(deeds, self._moments)

    def _act(self, moment):
        """Let the hand do what there is to do at the moment."""
        answer = self._hand.next(moment)
        if answer[0] == "open" and self._moments[-1] <= moment:
            self._hand.see(self._moments[-1])
            answer = self._hand.next(moment)
        if answer[0] == "ask":
            delay = self._delays[answer[1] - 1]
            self._moments.append(moment + delay)
            if delay == 0:
                self._hand.see(moment)


def play(case, delays, falls, history):
    """Return the plan that a hand with the least table makes, and the answers of an asker in its world."""
    realm, state, deeds, bounds, _, end = case
    if not are_delays(bounds, delays):
        raise NotAllowed("delays")
    table = least_table(realm, state, deeds, bounds, end)
    if table is None:
        raise NotAllowed("table")
    stage = Play(table, delays)
    counts = dict(falls)
    for moment in range(end + 1):
        stage.step(moment, counts)
    plan = stage.result(deeds)
    return plan, run_history(World(realm, state, plan), history)
