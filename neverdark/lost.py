"""Lost keys: until when an asker can be told something that was never published."""

from neverdark.chains import fits, is_anchored, is_good, needed
from neverdark.holding import spans
from neverdark.kinds import is_ascending, is_integer_in, is_tuple_of
from neverdark.names import is_id
from neverdark.realms import MAX_TIME, home, zone_names


def is_loss(realm, value):
    """Tell if the value is a triple of a zone, a key and the moment at which it is lost."""
    if not is_tuple_of(value, 3, 3):
        return False
    zone, key, moment = value
    return zone in zone_names(realm) and is_id(key) and is_integer_in(moment, 0, MAX_TIME)


def is_lost(realm, value):
    """Tell if the value is as the lost keys are."""
    if not isinstance(value, tuple) or not all([is_loss(realm, part) for part in value]):
        return False
    # If the pairs of zone and key ascend, so do the triples, and no pair stands there twice.
    return is_ascending([part[:2] for part in value])


def lost_keys(lost, zone, moment):
    """Return the list of the keys of the zone that are lost at the moment."""
    return [key for place, key, begin in lost if place == zone and begin <= moment]


def all_items(state, plan):
    """Return the pairs of a slot and an item of the start and of all deeds."""
    return [*state[0], *[deed[1:] for _, deed in plan if deed[0] == "put"]]


def is_strange(realm, state, plan, zone, key):
    """Tell if the key is none that the zone has, or that has sealed anything for it."""
    if zone == "." and key in realm[1]:
        return False
    for slot, item in all_items(state, plan):
        if slot in (("keys", zone), ("link", zone)) and key in item[0]:
            return False
        if key in item[2] and home(realm, slot) == zone:
            return False
    return True


def published(realm, state, plan, slot, moment):
    """Return the list of the items that the slot has had up to the moment."""
    return [item for item, begin, _ in spans(realm, state, plan, slot) if begin <= moment]


def can_plant(realm, state, plan, lost, slot, item, moment):
    """Tell if others can make an asker keep the item at the moment."""
    if item in published(realm, state, plan, slot, moment):
        return True
    zone = home(realm, slot)
    known = lost_keys(lost, zone, moment)
    return all([key in known or is_strange(realm, state, plan, zone, key) for key in item[2]])


def is_next(realm, chain, slot, item):
    """Tell if the item is sealed by the last one of the chain, or by an anchor if there is none."""
    if not chain:
        return is_anchored(realm, item)
    other, other_item = chain[-1]
    return fits(slot, item, other, other_item)


def longer(realm, chains, slot, items):
    """Return a chain that ends with the item, for each of the items with which one of the chains can go on."""
    found = []
    for item in items:
        begun = [chain for chain in chains if is_next(realm, chain, slot, item)]
        if begun:
            found.append((*begun[0], (slot, item)))
    return found


def lost_end(realm, state, plan, lost, places, moment):
    """Return a chain of published items with a lost key at its end, and this key, or None if there is none."""
    anchors = [key for key in lost_keys(lost, ".", moment) if key in realm[1]]
    if anchors:
        return (), anchors[0]
    chains = [()]
    for slot in places[:-1]:
        items = [item for item in published(realm, state, plan, slot, moment) if is_good(item, moment)]
        chains = longer(realm, chains, slot, items)
        known = lost_keys(lost, slot[1], moment)
        for chain in chains:
            keys = [key for key in chain[-1][1][0] if key in known]
            if keys:
                return chain, keys[0]
    return None


def can_be_false(realm, state, plan, lost, name, kind, moment):
    """Tell if something that was never published can be told for the set at the moment."""
    return lost_end(realm, state, plan, lost, needed(realm, name, kind), moment) is not None


def turns(realm, state, plan, lost, places):
    """Return the moments from which on something else may be possible than before them."""
    found = [0, *[begin for _, _, begin in lost]]
    for slot in places:
        for item, begin, _ in spans(realm, state, plan, slot):
            found.extend([begin, item[3], item[4] + 1])
    return found


def clean_from(realm, state, plan, lost, name, kind, end):
    """Return the least moment from which on nothing false can be told for the set up to the end."""
    places = needed(realm, name, kind)
    moments = sorted(set([moment for moment in turns(realm, state, plan, lost, places) if moment <= end]))
    clean = end + 1
    for moment in reversed(moments):
        if lost_end(realm, state, plan, lost, places, moment) is not None:
            return clean
        clean = moment
    return clean


def strange_key(realm, state, plan, zone):
    """Return a key that is strange in the zone."""
    number = 0
    while not is_strange(realm, state, plan, zone, str(number)):
        number += 1
    return str(number)


def strange_value(realm, state, plan, slot):
    """Return a value that no set of the slot consists of."""
    contents = [item[0] for item, _, _ in spans(realm, state, plan, slot)]
    number = 0
    while (str(number),) in contents:
        number += 1
    return str(number)


def forged_items(realm, state, plan, places, key):
    """Return pairs of these slots and forged items for them, of which the key seals the first one."""
    found = []
    for slot in places:
        # A link names a key of others' own for the zone, which seals what comes below it.
        named = key
        if slot[0] == "link":
            named = strange_key(realm, state, plan, slot[1])
        elif slot[0] == "set":
            named = strange_value(realm, state, plan, slot)
        found.append((slot, ((named,), 1, (key,), 0, MAX_TIME)))
        key = named
    return found


def loss_events(lost, moment):
    """Return the events by which the keys are lost up to the moment, each at its own."""
    events = []
    for begin, zone, key in sorted([(begin, zone, key) for zone, key, begin in lost if begin <= moment]):
        events.extend([("go", begin), ("lose", zone, key)])
    return events


def false_history(realm, state, plan, lost, name, kind, moment):
    """Return a history that ends with something false told at the moment, or None if that can't be."""
    places = needed(realm, name, kind)
    found = lost_end(realm, state, plan, lost, places, moment)
    if found is None:
        return None
    chain, key = found
    # All items are planted at the moment itself, so nothing is fetched and no server is asked.
    items = [*chain, *forged_items(realm, state, plan, places[len(chain):], key)]
    plants = [("plant", slot, item) for slot, item in items]
    return tuple([*loss_events(lost, moment), ("go", moment), *plants, ("ask", name, kind, ())])
