"""Tables of waits by which no follower is ever dark."""

from neverdark.chains import ROOT
from neverdark.tables import broken_delays, table_of_rows
from neverdark.waits import NEVER, Ground, all_spans, check_deeds, numbered, shared_rows, wait_row


def trust_row(place, seen, lag, rhythm):
    """Return the row by which an item is never held while keys without its signer are in mind."""
    item, begin, ended = place
    _, seen_begin, seen_ended = seen
    every, hold = rhythm
    if seen_ended is not None and begin >= seen_ended:
        return (begin, seen_ended, lag + 2 * every + hold - 1)
    return wait_row(ended, seen_begin, lag, item) or NEVER


def trust_rows(places, lag, rhythm):
    """Return the rows of the keys items of the root that do not have the signer of another one."""
    rows = []
    for place in places:
        for seen in places:
            if place[0][2][0] not in seen[0][0]:
                rows.append(trust_row(place, seen, lag, rhythm))
    return rows


def follow_rows(realm, state, deeds, rhythm, end):
    """Return the rows that the moments of the deeds keep exactly if no follower can be dark up to the end."""
    check_deeds(realm, state, deeds)
    ground = Ground(realm, end)
    steps = numbered(deeds)
    found = all_spans(ground, state, steps)
    rows = shared_rows(ground, state, steps, found, True) + trust_rows(found[ROOT], ground.lags[ROOT], rhythm)
    return tuple(sorted(set(rows)))


def follow_table(realm, state, deeds, bounds, rhythm, end):
    """Return the least table that is safe for followers, or None if no hand is safe for them."""
    return table_of_rows(follow_rows(realm, state, deeds, rhythm, end), bounds)


def check_follow(realm, state, deeds, bounds, table, rhythm, end):
    """Return None if the table is safe for followers, otherwise delays with which it is not."""
    return broken_delays(follow_rows(realm, state, deeds, rhythm, end), bounds, table)
