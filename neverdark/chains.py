"""Chains of seals: when the items that an asker has show a set."""

from neverdark.names import chain
from neverdark.realms import zone_names

# The slot whose keys nobody above names: an asker has to trust them.
ROOT = ("keys", ".")


def needed(realm, name, kind):
    """Return the tuple of the slots that are needed to show a set, from the root downwards."""
    found = [ROOT]
    for zone in chain(zone_names(realm), name)[1:]:
        found.extend([("link", zone), ("keys", zone)])
    found.append(("set", name, kind))
    return tuple(found)


def seal_pairs(realm):
    """Return the tuple of the pairs of a slot and the slot before it among some needed slots, each pair once."""
    found = {}
    for name, kind in realm[2]:
        places = needed(realm, name, kind)
        for other, slot in zip(places, places[1:]):
            found[(slot, other)] = True
    return tuple(found)


def is_good(item, moment):
    """Tell if the item is good at the moment."""
    return item[3] <= moment <= item[4]


def fits(slot, item, other, other_item):
    """Tell if the item of the slot fits the item of the slot before it among needed slots."""
    content, signers = item[0], item[2]
    named = other_item[0]
    if slot[0] == "keys":
        # The keys of a zone are sealed by one of themselves, which the link names.
        named = [key for key in named if key in content]
    return any([signer in named for signer in signers])


def is_anchored(realm, item):
    """Tell if an anchor is among the signers of the item."""
    return any([signer in realm[1] for signer in item[2]])


def trust_word(realm, held, places, at):
    """Return the word of the fault that the item at this place is not sealed rightly, or None."""
    slot = places[at]
    item = held[slot]
    if at == 0:
        return None if is_anchored(realm, item) else "anchor"
    other = places[at - 1]
    return None if fits(slot, item, other, held[other]) else slot[0]


def fault(realm, held, name, kind, moment):
    """Return the word and the slot of the first fault at the moment, or None if the items hold."""
    places = needed(realm, name, kind)
    for at, slot in enumerate(places):
        if not is_good(held[slot], moment):
            return ("early" if moment < held[slot][3] else "late", slot)
        word = trust_word(realm, held, places, at)
        if word is not None:
            return (word, slot)
    return None
