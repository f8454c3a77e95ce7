"""Tables of waits: how long to wait for deeds when nobody knows how long they take."""

from neverdark.errors import NotAllowed
from neverdark.kinds import is_ascending, is_integer_in, is_tuple_of
from neverdark.realms import are_allowed
from neverdark.rings import keeps
from neverdark.waits import rows_of

MAX_DEEDS = 6
MAX_DELAY = 1000
MAX_WAIT = 10000


def is_row_of_deeds(realm, state, value):
    """Tell if the value is a row of deeds for the state."""
    return is_tuple_of(value, 1, MAX_DEEDS) and are_allowed(realm, state, value)


def is_bound(value):
    """Tell if the value is a pair of a least and a greatest delay."""
    if not is_tuple_of(value, 2, 2) or not is_integer_in(value[0], 0, MAX_DELAY):
        return False
    return is_integer_in(value[1], value[0], MAX_DELAY)


def is_bounds(count, value):
    """Tell if the value is the bounds of so many deeds."""
    return is_tuple_of(value, count, count) and all([is_bound(part) for part in value])


def is_wait(count, value):
    """Tell if the value is a row of a table for so many deeds."""
    if not is_tuple_of(value, 3, 3):
        return False
    k, j, wait = value
    return is_integer_in(k, 1, count) and is_integer_in(j, 0, k - 1) and is_integer_in(wait, 1, MAX_WAIT)


def is_table(count, value):
    """Tell if the value is a table for so many deeds."""
    if not isinstance(value, tuple) or not all([is_wait(count, part) for part in value]):
        return False
    return is_ascending([(k, j) for k, j, _ in value])


def ask_moment(table, done):
    """Return the first moment at which the table lets the next deed be asked for, after these moments."""
    moments = [0, *done]
    waits = [moments[j] + wait for k, j, wait in table if k == len(moments)]
    return max([moments[-1] + 1, *waits])


def are_delays(bounds, delays):
    """Tell if there is one delay for each pair of bounds, within it."""
    if len(delays) != len(bounds):
        return False
    return all([least <= delay <= most for delay, (least, most) in zip(delays, bounds)])


def run_table(table, bounds, delays):
    """Return the moments at which the deeds are asked for, and those at which they are done."""
    if not are_delays(bounds, delays):
        raise NotAllowed("delays")
    asked = []
    done = []
    for delay in delays:
        moment = ask_moment(table, done)
        asked.append(moment)
        done.append(moment + delay)
    return tuple(asked), tuple(done)


def plan_of(deeds, done):
    """Return the plan with the deeds at the moments."""
    return tuple(zip(done, deeds))


def corner_delays(bounds):
    """Return the list of all delays that are least or greatest at each place, in their order."""
    found = [()]
    for least, most in bounds:
        # Equal bounds give one delay, not twice the same.
        ends = [least] if least == most else [least, most]
        found = [(*delays, delay) for delays in found for delay in ends]
    return found


def broken_delays(rows, bounds, table):
    """Return delays with which the run of the table breaks one of the rows, or None."""
    for delays in corner_delays(bounds):
        if not keeps(rows, run_table(table, bounds, delays)[1]):
            return delays
    return None


def check_table(realm, state, deeds, bounds, table, end):
    """Return None if the table is safe, otherwise delays with which its run is late or somebody can be dark."""
    return broken_delays(rows_of(realm, state, deeds, end), bounds, table)


def greatest_waits(rows):
    """Return a dict from the pairs k, j to the greatest `least` of their rows."""
    found = {}
    for k, j, least in rows:
        found[(k, j)] = max(least, found.get((k, j), least))
    return found


def is_impossible(row):
    """Tell if no moments that ascend keep the row, whatever the delays are."""
    k, j, least = row
    return (k == j and least > 0) or (0 < k < j and least > k - j)


def waits_of(rows, bounds):
    """Return the table with the waits that the rows ask for."""
    table = []
    for (k, j), least in greatest_waits(rows).items():
        # The next deed waits for one moment anyway.
        if j < k and least - bounds[k - 1][0] >= (2 if j == k - 1 else 1):
            table.append((k, j, least - bounds[k - 1][0]))
    return tuple(sorted(table))


def most_delays(bounds):
    """Return the greatest delays."""
    return tuple([most for _, most in bounds])


def table_of_rows(rows, bounds):
    """Return the least table whose runs keep the rows, or None if there is none."""
    if any([is_impossible(row) for row in rows]):
        return None
    table = waits_of(rows, bounds)
    done = run_table(table, bounds, most_delays(bounds))[1]
    return table if keeps([row for row in rows if row[0] == 0], done) else None


def least_table(realm, state, deeds, bounds, end):
    """Return the least table that is safe, or None if no hand is safe."""
    return table_of_rows(rows_of(realm, state, deeds, end), bounds)


def too_early(realm, state, deeds, bounds, end, done, moment):
    """Return the moment of darkness if asking for the next deed now is too early, otherwise None."""
    table = least_table(realm, state, deeds, bounds, end)
    if table is None or moment >= ask_moment(table, done):
        return None
    return moment + bounds[len(done)][0]
