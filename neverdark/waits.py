"""Waits: the rows that the moments of some deeds have to keep so that no asker can be dark."""

from neverdark.chains import ROOT, fits, is_anchored, seal_pairs
from neverdark.errors import NotAllowed
from neverdark.holding import off_spans, spans
from neverdark.realms import are_allowed, lag_of, slots

# No moments keep this row.
NEVER = (0, 0, 1)


class Ground:
    """What all rows for one realm and one end rest on, found once as it takes a while."""

    def __init__(self, realm, end):
        self.realm = realm
        self.end = end
        self.lags = {slot: lag_of(realm, slot) for slot in slots(realm)}
        self.pairs = seal_pairs(realm)


def order_rows(count, end):
    """Return the rows that moments of deeds keep if they are a plan up to the end."""
    return [(k, k - 1, 1) for k in range(1, count + 1)] + [(0, count, -end)]


def first_rows(item, begin):
    """Return the rows by which the item is there only when it is good."""
    if item[3] == 0:
        return []
    return [(begin, 0, item[3])] if begin > 0 else [NEVER]


def last_rows(item, ended, lag, end, is_whole):
    """Return the rows by which the item is over before it is no longer good."""
    if item[4] >= end:
        return []
    if ended is not None:
        return [(0, ended, lag + item[1] - 2 - item[4])]
    # Behind a beginning of the deeds, another one may still end the item.
    return [NEVER] if is_whole else []


def good_rows(ground, found, is_whole):
    """Return the rows of the items that are not good for ever."""
    rows = []
    for slot, places in found.items():
        if slot[0] != "hosts":
            for item, begin, ended in places:
                rows.extend(first_rows(item, begin))
                rows.extend(last_rows(item, ended, ground.lags[slot], ground.end, is_whole))
    return rows


def empty_rows(found):
    """Return the rows of the hosts items that name nobody: no asker may ever have one."""
    rows = [item for slot, places in found.items() if slot[0] == "hosts" for item, _, _ in places]
    return [NEVER for item in rows if item[0] == ()]


def anchor_rows(ground, found):
    """Return the rows of the keys items of the root that no anchor has sealed."""
    return [NEVER for item, _, _ in found[ROOT] if not is_anchored(ground.realm, item)]


def wait_row(ended, begin, lag, item):
    """Return the row by which a deed waits until the ended item is over, or None if it comes too soon."""
    if ended is None or begin < ended:
        return None
    return (begin, ended, lag + item[1] - 1)


def apart_row(place, lag, other_place, other_lag):
    """Return the row by which two items are never held at once."""
    item, begin, ended = place
    other_item, other_begin, other_ended = other_place
    row = wait_row(ended, other_begin, lag, item) or wait_row(other_ended, begin, other_lag, other_item)
    return row or NEVER


def seal_rows(ground, found):
    """Return the rows of the items that do not fit an item of the slot before theirs."""
    rows = []
    for slot, other in ground.pairs:
        for place in found[slot]:
            for other_place in found[other]:
                if not fits(slot, place[0], other, other_place[0]):
                    rows.append(apart_row(place, ground.lags[slot], other_place, ground.lags[other]))
    return rows


def server_rows(place, lag, stretches):
    """Return the rows of a hosts item and the stretches in which a server that it names is off."""
    item, begin, ended = place
    rows = []
    for off, on in stretches:
        if on is None or on > begin:
            rows.append(wait_row(ended, off, lag, item) or NEVER)
    return rows


def hosts_rows(ground, state, steps, found):
    """Return the rows of the hosts items and the servers that they name."""
    rows = []
    for slot, places in found.items():
        if slot[0] == "hosts":
            for place in places:
                for server in place[0][0]:
                    stretches = off_spans(state, steps, server, slot[1])
                    rows.extend(server_rows(place, ground.lags[slot], stretches))
    return rows


def numbered(deeds):
    """Return the deeds as a plan that has the deed k at the moment k."""
    # The moments in the spans of such a plan are the numbers of the deeds.
    return list(enumerate(deeds, start=1))


def all_spans(ground, state, steps):
    """Return a dict from the slots to their spans in a plan."""
    return {slot: spans(ground.realm, state, steps, slot) for slot in ground.lags}


def shared_rows(ground, state, steps, found, is_whole):
    """Return the rows that do not ask who is trusted at the root."""
    rows = order_rows(len(steps), ground.end)
    rows.extend(good_rows(ground, found, is_whole))
    rows.extend(empty_rows(found))
    rows.extend(seal_rows(ground, found))
    rows.extend(hosts_rows(ground, state, steps, found))
    return rows


def ground_rows(ground, state, deeds, is_whole):
    """Return the rows of deeds that are allowed: all of them, or those of a beginning."""
    steps = numbered(deeds)
    found = all_spans(ground, state, steps)
    rows = shared_rows(ground, state, steps, found, is_whole) + anchor_rows(ground, found)
    return tuple(sorted(set(rows)))


def check_deeds(realm, state, deeds):
    """Raise NotAllowed("deeds") if some deed is not allowed in its turn."""
    if not are_allowed(realm, state, deeds):
        raise NotAllowed("deeds")


def rows_of(realm, state, deeds, end):
    """Return the rows that the moments of the deeds keep exactly if no asker can be dark up to the end."""
    check_deeds(realm, state, deeds)
    return ground_rows(Ground(realm, end), state, deeds, True)


def begun_rows(realm, state, deeds, end):
    """Return those rows of a beginning of the deeds that stay whatever deeds come behind."""
    check_deeds(realm, state, deeds)
    return ground_rows(Ground(realm, end), state, deeds, False)
