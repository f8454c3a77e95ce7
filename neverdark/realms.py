"""Realms, states and plans: what there is at one moment, and how it changes."""

from neverdark.errors import NotAllowed
from neverdark.kinds import is_ascending, is_integer_in, is_tuple_of
from neverdark.names import chain, ends, is_id, is_name, zone_of

MAX_TIME = 10000
MAX_LIFE = 1000
MAX_LAG = 100
MAX_ZONES = 6
MAX_ANCHORS = 3
MAX_SETS = 8
MAX_IDS = 4
MAX_SIGNERS = 3
MAX_PLAN = 12


def are_ids(value, least, most):
    """Tell if the value is an ascending tuple of `least` to `most` ids."""
    return is_tuple_of(value, least, most) and all([is_id(part) for part in value]) and is_ascending(value)


def is_zone(value):
    """Tell if the value is a pair of a name and a lag."""
    return is_tuple_of(value, 2, 2) and is_name(value[0]) and is_integer_in(value[1], 0, MAX_LAG)


def are_zones(value):
    """Tell if the value is as the zones of a realm are."""
    if not is_tuple_of(value, 1, MAX_ZONES) or not all([is_zone(part) for part in value]):
        return False
    names = [zone for zone, _ in value]
    return names[0] == "." and is_ascending(names)


def is_set(value):
    """Tell if the value is a pair of a name and an id."""
    return is_tuple_of(value, 2, 2) and is_name(value[0]) and is_id(value[1])


def are_sets(value):
    """Tell if the value is as the sets of a realm are, whatever its zones are."""
    return is_tuple_of(value, 1, MAX_SETS) and all([is_set(part) for part in value]) and is_ascending(value)


def is_used(zone, sets):
    """Tell if the zone is in the chain of the name of some set."""
    return any([ends(name, zone) for name, _ in sets])


def is_realm(value):
    """Tell if the value is a realm."""
    if not is_tuple_of(value, 3, 3):
        return False
    zones, anchors, sets = value
    if not are_zones(zones) or not are_ids(anchors, 1, MAX_ANCHORS) or not are_sets(sets):
        return False
    return all([is_used(zone, sets) for zone, _ in zones])


def zone_names(realm):
    """Return the tuple of the zones, without their lags."""
    return tuple([zone for zone, _ in realm[0]])


def slots(realm):
    """Return the tuple of all slots, in slot order."""
    found = []
    for zone in zone_names(realm):
        found.append(("keys", zone))
        if zone != ".":
            found.extend([("link", zone), ("hosts", zone)])
    found.extend([("set", name, kind) for name, kind in realm[2]])
    return tuple(found)


def parent(realm, zone):
    """Return the zone before this one in its own chain."""
    return chain(zone_names(realm), zone)[-2]


def home(realm, slot):
    """Return the zone that publishes the slot."""
    if slot[0] == "keys":
        return slot[1]
    if slot[0] == "set":
        return zone_of(zone_names(realm), slot[1])
    return parent(realm, slot[1])


def lag_of(realm, slot):
    """Return the lag of the home of the slot."""
    return dict(realm[0])[home(realm, slot)]


def is_slot(realm, value):
    """Tell if the value is a slot of the realm."""
    return value in slots(realm)


def is_item(slot, value):
    """Tell if the value is an item of this slot."""
    if not is_tuple_of(value, 5, 5):
        return False
    content, life, signers, first, last = value
    if not are_ids(content, 0, MAX_IDS) or not is_integer_in(life, 1, MAX_LIFE):
        return False
    if not are_ids(signers, 0, MAX_SIGNERS):
        return False
    if not is_integer_in(first, 0, MAX_TIME) or not is_integer_in(last, first, MAX_TIME):
        return False
    return slot[0] != "hosts" or (signers, first, last) == ((), 0, MAX_TIME)


def are_items(realm, value):
    """Tell if the value is a pair of a slot and its item for each slot, in slot order."""
    places = slots(realm)
    if not is_tuple_of(value, len(places), len(places)):
        return False
    if not all([is_tuple_of(part, 2, 2) for part in value]):
        return False
    if tuple([slot for slot, _ in value]) != places:
        return False
    return all([is_item(slot, item) for slot, item in value])


def is_server(realm, value):
    """Tell if the value is a pair of an id and a zone other than the root."""
    return is_tuple_of(value, 2, 2) and is_id(value[0]) and value[1] in zone_names(realm)[1:]


def is_state(realm, value):
    """Tell if the value is a state of the realm."""
    if not is_tuple_of(value, 2, 2):
        return False
    items, on = value
    if not are_items(realm, items) or not isinstance(on, tuple):
        return False
    return all([is_server(realm, part) for part in on]) and is_ascending(on)


def item_of(state, slot):
    """Return the item that the slot has in the state."""
    return dict(state[0])[slot]


def is_on(state, server, zone):
    """Tell if the server is on for the zone."""
    return (server, zone) in state[1]


def is_deed(realm, state, value):
    """Tell if the value is a deed that is allowed in the state."""
    if not is_tuple_of(value, 3, 3):
        return False
    word, place, worth = value
    if word == "put":
        return is_slot(realm, place) and is_item(place, worth)
    if word == "on":
        return is_server(realm, (place, worth)) and not is_on(state, place, worth)
    return word == "off" and is_on(state, place, worth)


def changed(state, deed):
    """Return the state after a deed that is allowed."""
    items, on = state
    word, place, worth = deed
    if word == "put":
        return tuple([(slot, worth if slot == place else item) for slot, item in items]), on
    if word == "on":
        return items, tuple(sorted([*on, (place, worth)]))
    return items, tuple([pair for pair in on if pair != (place, worth)])


def after(realm, state, deed):
    """Return the state after the deed; raise NotAllowed("deed") if it is not allowed."""
    if not is_deed(realm, state, deed):
        raise NotAllowed("deed")
    return changed(state, deed)


def are_allowed(realm, state, deeds):
    """Tell if each of the deeds is allowed in the state that those before it make."""
    for deed in deeds:
        if not is_deed(realm, state, deed):
            return False
        state = changed(state, deed)
    return True


def is_plan(realm, state, value):
    """Tell if the value is a plan for the state."""
    if not is_tuple_of(value, 0, MAX_PLAN):
        return False
    last = 0
    for step in value:
        if not is_tuple_of(step, 2, 2):
            return False
        moment, deed = step
        if not is_integer_in(moment, last + 1, MAX_TIME) or not is_deed(realm, state, deed):
            return False
        last = moment
        state = changed(state, deed)
    return True


def state_at(realm, state, plan, moment):
    """Return the state at the moment, of a world that begins with `state`."""
    for done, deed in plan:
        if done <= moment:
            state = changed(state, deed)
    return state
