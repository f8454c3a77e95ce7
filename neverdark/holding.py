"""Holding: at which moments some asker can hold an item."""

from neverdark.realms import is_on, item_of, lag_of


def spans(realm, state, plan, slot):
    """Return the list of the items of the slot, each with the moments at which it begins and ends."""
    found = []
    item = item_of(state, slot)
    begin = 0
    for moment, deed in plan:
        if deed[:2] == ("put", slot):
            found.append((item, begin, moment))
            item = deed[2]
            begin = moment
    found.append((item, begin, None))
    return found


def off_spans(state, plan, server, zone):
    """Return the list of the stretches in which the server is not on for the zone."""
    found = []
    begin = None if is_on(state, server, zone) else 0
    for moment, deed in plan:
        if deed == ("off", server, zone):
            begin = moment
        elif deed == ("on", server, zone):
            found.append((begin, moment))
            begin = None
    if begin is not None:
        found.append((begin, None))
    return found


def over(realm, slot, item, end):
    """Return the moment at which an item with this end is held no more."""
    return end - 1 + lag_of(realm, slot) + item[1]


def is_before(moment, stop):
    """Tell if the moment is before a stop, which may be None for never."""
    return stop is None or moment < stop


def held_spans(realm, state, plan, slot):
    """Return the spans of the slot, each with the moment at which its item is over, or None."""
    found = []
    for item, begin, end in spans(realm, state, plan, slot):
        stop = None if end is None else over(realm, slot, item, end)
        found.append((item, begin, end, stop))
    return found


def can_hold(realm, state, plan, slot, moment):
    """Return the list of the items of the slot that count as held at the moment."""
    rows = held_spans(realm, state, plan, slot)
    return [item for item, begin, _, stop in rows if begin <= moment and is_before(moment, stop)]
