"""The judge: the least moment at which some asker can be dark, and a history that shows it."""

from neverdark.chains import ROOT, fits, is_anchored, needed, seal_pairs
from neverdark.holding import held_spans, is_before, off_spans
from neverdark.names import chain
from neverdark.realms import home, slots, zone_names


class Darkness:
    """A way to be dark: its first moment, the dark answer, and what an asker has to hold for it."""

    def __init__(self, moment, word, slot, holds, server=0):
        self.moment = moment
        self.word = word
        self.slot = slot
        # Pairs of a slot and a held span; for `lame`, `server` is the index of the server to take.
        self.holds = holds
        self.server = server


def first_common(row, begin, stop):
    """Return the first moment in the held span and the stretch, or None."""
    moment = max(row[1], begin)
    return moment if is_before(moment, row[3]) and is_before(moment, stop) else None


def bad_moment(row):
    """Return the first moment in the held span at which its item is not good, or None."""
    item, begin, _, stop = row
    moment = begin if begin < item[3] else max(begin, item[4] + 1)
    return moment if is_before(moment, stop) else None


def rows_held(held, words):
    """Return the pairs of a slot of these kinds and a held span of it."""
    return [(slot, row) for slot, rows in held.items() if slot[0] in words for row in rows]


def bad_ways(held):
    """Return the ways by an item of a keys, link or set slot that is not good."""
    found = []
    for slot, row in rows_held(held, ("keys", "link", "set")):
        moment = bad_moment(row)
        if moment is not None:
            word = "early" if moment < row[0][3] else "late"
            found.append(Darkness(moment, word, slot, ((slot, row),)))
    return found


def anchor_ways(realm, held):
    """Return the ways by a keys item of the root that no anchor has sealed."""
    rows = [row for row in held[ROOT] if not is_anchored(realm, row[0])]
    return [Darkness(row[1], "anchor", ROOT, ((ROOT, row),)) for row in rows]


def lame_ways(state, plan, slot, row):
    """Return the ways by a server that a hosts item names and that is not on."""
    found = []
    for at, server in enumerate(row[0][0]):
        for begin, stop in off_spans(state, plan, server, slot[1]):
            moment = first_common(row, begin, stop)
            if moment is not None:
                found.append(Darkness(moment, "lame", slot, ((slot, row),), at))
    return found


def hosts_ways(state, plan, held):
    """Return the ways by a hosts item that names nobody, or a server that is not on."""
    found = []
    for slot, row in rows_held(held, ("hosts",)):
        if not row[0][0]:
            found.append(Darkness(row[1], "hosts", slot, ((slot, row),)))
        found.extend(lame_ways(state, plan, slot, row))
    return found


def unfit_ways(realm, held):
    """Return the ways by an item that does not fit an item of the slot before it."""
    found = []
    for slot, other in seal_pairs(realm):
        for row in held[slot]:
            for other_row in held[other]:
                moment = first_common(row, other_row[1], other_row[3])
                if moment is not None and not fits(slot, row[0], other, other_row[0]):
                    found.append(Darkness(moment, slot[0], slot, ((slot, row), (other, other_row))))
    return found


def places(realm):
    """Return a dict from the needed slots of all sets to how many needed slots stand above them."""
    found = {}
    for name, kind in realm[2]:
        for at, slot in enumerate(needed(realm, name, kind)):
            found[slot] = at
    return found


def rank(above, way):
    """Return what tells which of several ways at one moment comes first."""
    # An asker that cannot reach the servers of a zone gets nothing from below it, so
    # these ways go first. Of the others, an ask tells the first one from the root
    # downwards, and at one slot that the item is not good.
    if way.slot[0] == "hosts":
        return (way.moment, 0, above[("keys", way.slot[1])], 0)
    return (way.moment, 1, above[way.slot], 0 if way.word in ("early", "late") else 1)


def shared_ways(realm, state, plan, held):
    """Return the ways to be dark that do not ask who is trusted at the root."""
    return bad_ways(held) + hosts_ways(state, plan, held) + unfit_ways(realm, held)


def all_held(realm, state, plan):
    """Return a dict from the slots to the held spans of their items."""
    return {slot: held_spans(realm, state, plan, slot) for slot in slots(realm)}


def least_way(realm, ways, end):
    """Return the way that comes first, or None if there is none up to the end."""
    above = places(realm)
    return min([way for way in ways if way.moment <= end], key=lambda way: rank(above, way), default=None)


def first_way(realm, state, plan, end):
    """Return the way to be dark that comes first, or None if there is none up to the end."""
    held = all_held(realm, state, plan)
    return least_way(realm, anchor_ways(realm, held) + shared_ways(realm, state, plan, held), end)


def judge(realm, state, plan, end):
    """Return the least moment of darkness with a word and a slot, or None if there is none up to the end."""
    return told_of(first_way(realm, state, plan, end))


def told_of(way):
    """Return what is told of a way to be dark, or None if there is none."""
    return None if way is None else (way.moment, way.word, way.slot)


def fetch_of(moment, slot, row):
    """Return when to fetch the item, its slot and the pick, such that it is held at the moment."""
    item, begin, end, _ = row
    # As early as possible: at the moment itself not all servers may be on any more.
    fetched = max(begin, moment - item[1] + 1)
    return (fetched, slot, 0 if end is None else max(0, fetched - end + 1))


def fetch_events(realm, moment, slot, pick):
    """Return the events by which an asker gets an item of the slot anew at the moment."""
    zones = chain(zone_names(realm), home(realm, slot))[1:]
    ways_there = [("fill", ("hosts", zone), ()) for zone in zones]
    # The hosts items are all kept then, so the pick is the first number that is taken.
    return [("go", moment), *ways_there, ("drop", slot), ("fill", slot, (pick,))]


def last_events(realm, way):
    """Return the events that end with the dark answer, for an asker that holds what it needs."""
    if way.slot[0] == "hosts":
        slot = ("keys", way.slot[1])
        return [("drop", slot), ("fill", slot, (0, way.server))]
    asks = [("ask", name, kind, ()) for name, kind in realm[2] if way.slot in needed(realm, name, kind)]
    return asks[:1]


def fetch_steps(realm, way):
    """Return when an asker fetches what it has to hold, with the events, one after another."""
    rows = sorted([fetch_of(way.moment, slot, row) for slot, row in way.holds])
    return [(moment, fetch_events(realm, moment, slot, pick)) for moment, slot, pick in rows]


def history_of(realm, way, steps):
    """Return the history of these steps, moments with their events, that ends with the dark answer."""
    events = []
    for _, part in steps:
        events.extend(part)
    return tuple([*events, ("go", way.moment), *last_events(realm, way)])


def history(realm, state, plan, end):
    """Return a history whose last answer is the first dark one, or None if `judge` tells none."""
    way = first_way(realm, state, plan, end)
    return None if way is None else history_of(realm, way, fetch_steps(realm, way))
