"""Small worlds, drawn or made for one purpose, and plain ways to find out what their askers can do."""

import functools
import itertools
import random

from neverdark.chains import fault, needed
from neverdark.realms import after, home, is_deed, is_realm, is_state, lag_of, slots, zone_names
from neverdark.tables import is_table
from neverdark.worlds import World

LAST = 10000
SHAPES = [(".",), (".", "a"), (".", "a", "b.a"), (".", "a", "b"), (".", "a", "b.a", "c.b.a"), (".", "b.a", "c.b.a")]


def realm_of(lags, sets=None, anchors=("k",)):
    """Return a realm with these zones, a dict from names to lags, and a set for each of them."""
    sets = tuple(sorted([(zone, "v") for zone in lags])) if sets is None else sets
    realm = (tuple(sorted(lags.items())), anchors, sets)
    assert is_realm(realm)
    return realm


def item(content, signers="k", life=1, first=0, last=LAST):
    """Return an item whose ids are the letters of two texts."""
    return (tuple(content), life, tuple(signers), first, last)


def hosts(content, life=1):
    """Return an item of a hosts slot."""
    return item(content, "", life)


def calm_item(slot, life=1):
    """Return an item that fits all other items of this kind."""
    return hosts("s", life) if slot[0] == "hosts" else item("k", "k", life)


def state_of(realm, items=(), on=None, life=1):
    """Return a state in which all is well, but for the items of a dict."""
    items = dict(items)
    servers = [("s", zone) for zone in zone_names(realm)[1:]] if on is None else on
    state = (tuple([(slot, items.get(slot, calm_item(slot, life))) for slot in slots(realm)]), tuple(sorted(servers)))
    assert is_state(realm, state)
    return state


def plan_at(moments, deeds):
    """Return the plan with the deeds at the moments."""
    return tuple(zip(moments, deeds))


# Worlds that are drawn. The same seed gives the same world.


def draw_some(draw, letters, least):
    return "".join(sorted(draw.sample(letters, draw.randint(least, len(letters)))))


def draw_item(draw, slot, calm):
    """Return an item of the slot; the greater `calm` is, the more often it fits the others."""
    life = draw.choice([1, 1, 2, 3, 5])
    if slot[0] == "hosts":
        return hosts(draw_some(draw, "st", 0 if draw.random() > calm else 1), life)
    content = draw_some(draw, "kl", 1) if draw.random() < calm else draw_some(draw, "klm", 0)
    signers = draw_some(draw, "kl", 1) if draw.random() < calm else draw_some(draw, "klm", 0)
    first = 0 if draw.random() < calm else draw.randint(0, 12)
    last = LAST if draw.random() < calm else draw.randint(first, first + 20)
    return item(content, signers, life, first, last)


def draw_realm(draw):
    lags = {zone: draw.choice([0, 0, 1, 2, 3]) for zone in draw.choice(SHAPES)}
    sets = [(zone, "v") for zone in lags] + [(draw.choice(sorted(lags)), "w")]
    return realm_of(lags, tuple(sorted(sets)), ("k",) if draw.random() < 0.7 else ("k", "l"))


def draw_state(draw, realm, calm):
    pairs = [(server, zone) for zone in zone_names(realm)[1:] for server in "stu"]
    on = [pair for pair in pairs if draw.random() < calm or pair[0] == "s"]
    items = {slot: calm_item(slot, draw.choice([1, 2, 4])) if draw.random() < calm else draw_item(draw, slot, calm)
             for slot in slots(realm)}
    return state_of(realm, items, on)


def draw_deed(draw, realm, state, calm):
    """Return a deed that is allowed in the state."""
    zones = zone_names(realm)[1:]
    if zones and draw.random() < 0.3:
        pair = (draw.choice("st"), draw.choice(zones))
        return ("off" if pair in state[1] else "on",) + pair
    slot = draw.choice(slots(realm))
    return ("put", slot, draw_item(draw, slot, calm))


def draw_deeds(draw, realm, state, count, calm):
    """Return so many deeds that are allowed one after another."""
    deeds = []
    for _ in range(count):
        deed = draw_deed(draw, realm, state, calm)
        assert is_deed(realm, state, deed)
        state = after(realm, state, deed)
        deeds.append(deed)
    return tuple(deeds)


def draw_world(seed, count=None, calm=None):
    """Return a realm, a start, and deeds; the greater the seed, the more different worlds."""
    draw = random.Random(seed)
    calm = draw.choice([0.8, 0.9, 0.95, 1]) if calm is None else calm
    realm = draw_realm(draw)
    state = draw_state(draw, realm, calm)
    return realm, state, draw_deeds(draw, realm, state, draw.randint(0, 6) if count is None else count, calm)


def key_change(draw, realm):
    """Return items to start with, and deeds that lead a zone from the key k to the key l."""
    zone = draw.choice(zone_names(realm))
    lives = [draw.choice([1, 3, 5, 8]) for _ in range(5)]
    sealed = [slot for slot in slots(realm) if slot[0] in ("link", "set") and home(realm, slot) == zone]
    slot = draw.choice(sealed)
    items = {other: item("k", "kl", draw.choice([1, 2, 4])) for other in sealed if other != slot}
    deeds = [("put", ("keys", zone), item("kl", "kl", lives[0])), ("put", slot, item("k", "l", lives[2])),
             ("put", ("keys", zone), item("l", "kl" if zone == "." else "l", lives[3]))]
    if zone != ".":
        deeds.insert(1, ("put", ("link", zone), item("kl", "k", lives[1])))
        deeds.append(("put", ("link", zone), item("l", "k", lives[4])))
    return items, deeds


def server_change(draw, realm):
    """Return deeds that lead a zone from the server s to the server t."""
    zone = draw.choice(zone_names(realm)[1:])
    slot = ("hosts", zone)
    return [("on", "t", zone), ("put", slot, hosts("st", draw.choice([1, 4, 8]))),
            ("put", slot, hosts("t", draw.choice([1, 2, 4]))), ("off", "s", zone)]


def draw_change(seed, most):
    """Return a realm, a start in which all is well, and up to `most` deeds that belong together."""
    draw = random.Random(seed)
    realm = draw_realm(draw)
    items = {slot: calm_item(slot, draw.choice([1, 3, 5, 8])) for slot in slots(realm)}
    sealed, keys = key_change(draw, realm)
    items.update(sealed)
    servers = server_change(draw, realm) if len(realm[0]) > 1 else []
    deeds = []
    while keys or servers:
        deeds.append((draw.choice([line for line in (keys, servers) if line])).pop(0))
    if draw.random() < 0.3:
        deeds.remove(draw.choice([deed for deed in deeds if deed[0] == "put"]))
    begin = draw.randint(0, max(0, len(deeds) - most))
    state = state_of(realm, items)
    for deed in deeds[:begin]:
        state = after(realm, state, deed)
    return realm, state, tuple(deeds[begin:begin + most])


def draw_moments(draw, count, gap):
    """Return moments that ascend strictly from 1 on."""
    return tuple(itertools.accumulate([draw.randint(1, gap) for _ in range(count)]))


# The plain meaning: what an asker can have at a moment, found by going through all moments.


class Reach:
    """All that some asker can keep, slot by slot, while nothing dark has happened yet."""

    def __init__(self, realm, state, plan):
        self.realm = realm
        self.world = World(realm, state, plan)
        # From each slot to a dict from the items to the greatest end of keeping.
        self.kept = {slot: {} for slot in slots(realm)}
        # The hosts of a zone are found before anything that this zone publishes.
        self.order = sorted(slots(realm), key=lambda slot: (len(home(realm, slot).replace(".", "")), slot))

    def fetch(self, slot, moment):
        """Add what can be fetched at the moment; return the dark answers that are possible for it."""
        zone = home(self.realm, slot)
        dark = set()
        works = zone == "."
        if zone != ".":
            for held in self.kept["hosts", zone]:
                if not held[0]:
                    dark.add(("hosts", ("hosts", zone)))
                for server in held[0]:
                    if self.world.is_on(server, zone, moment):
                        works = True
                    else:
                        dark.add(("lame", ("hosts", zone)))
        if works:
            for back in range(lag_of(self.realm, slot) + 1):
                found = self.world.current(slot, moment - back)
                self.kept[slot][found] = max(moment + found[1], self.kept[slot].get(found, 0))
        return dark

    def step(self, moment, trusting=None):
        """Go to the moment; return all dark answers (a word and a slot) that are possible at it.

        `trusting` are realms with the keys of the root that are trusted as their anchors.
        """
        dark = set()
        for slot in self.order:
            self.kept[slot] = {held: until for held, until in self.kept[slot].items() if moment < until}
            dark |= self.fetch(slot, moment)
        for name, kind in self.realm[2]:
            places = needed(self.realm, name, kind)
            for held in itertools.product(*[self.kept[slot] for slot in places]):
                for realm in [self.realm] if trusting is None else trusting:
                    wrong = fault(realm, dict(zip(places, held)), name, kind, moment)
                    if wrong is not None:
                        dark.add(wrong)
        return dark


def plain_judge(realm, state, plan, end):
    """Return the least moment with a dark answer and all dark answers at it, or None."""
    reach = Reach(realm, state, plan)
    for moment in range(end + 1):
        dark = reach.step(moment)
        if dark:
            return moment, dark
    return None


def plainly_kept(rows, moments):
    """Tell if the moments y_1, y_2 and so on keep all rows."""
    at = dict(enumerate(moments, start=1))
    at[0] = 0
    return all(at[k] - at[j] >= least for k, j, least in rows)


def draw_history(draw, realm, state, plan, end):
    """Return a history without plants that goes up to the end."""
    items = slots(realm)
    events = []
    moment = 0
    while moment <= end:
        events.append(("go", moment))
        for _ in range(draw.randint(1, 6)):
            picks = tuple([draw.randint(0, 5) for _ in range(draw.randint(0, 6))])
            word = draw.choice(["fill", "ask", "ask", "drop"])
            if word == "ask":
                events.append(("ask", *draw.choice(realm[2]), picks))
            else:
                slot = draw.choice(items)
                events.append(("drop", slot) if word == "drop" else ("fill", slot, picks))
        moment += draw.choice([1, 1, 1, 2, 3])
    return tuple(events)


def orders(count):
    """Return all orders of so many numbers, ascending."""
    return list(itertools.permutations(range(1, count + 1)))


def chosen(values, order):
    return tuple([values[number - 1] for number in order])


@functools.cache
def all_delays(bounds):
    """Return all delays within the bounds."""
    return list(itertools.product(*[range(least, most + 1) for least, most in bounds]))


def draw_pairs(draw, count):
    """Return pairs by which no deed stands before itself."""
    line = draw.sample(range(1, count + 1), count)
    pairs = [pair for pair in itertools.combinations(line, 2) if draw.random() < 0.15]
    return tuple(sorted(pairs))


def order_cases(seeds, counts=(1, 2, 3, 4)):
    """Return worlds with deeds in any order, bounds, an end and pairs."""
    found = []
    for seed in range(seeds):
        draw = random.Random(seed)
        count = draw.choice(counts)
        realm, state, deeds = draw_change(seed, count) if seed % 3 else draw_world(seed, count, 1)
        deeds = tuple(draw.sample(deeds, len(deeds)))
        bounds = tuple([(least, least + draw.choice([0, 1, 6])) for least in draw.choices([0, 1, 2], k=len(deeds))])
        found.append((realm, state, deeds, bounds, draw.choice([10, 30, 60]), draw_pairs(draw, len(deeds))))
    return found


def draw_bounds(draw, count):
    return tuple([(least, least + draw.choice([0, 1, 2])) for least in draw.choices([0, 1, 2, 3], k=count)])


def draw_tables(draw, least, count):
    """Return tables around the least one."""
    found = [least]
    for _ in range(3):
        found.append(tuple([(k, j, max(1, wait + draw.choice([-1, 0, 0, 1]))) for k, j, wait in least]))
        rows = [(k, j, draw.randint(1, 9)) for k in range(1, count + 1) for j in range(k) if draw.random() < 0.4]
        found.append(tuple(rows))
    return [table for table in found if is_table(count, table)]


def plain_hand(bounds, end, is_bad):
    """Return a function from the moments of the first deeds to the first moment that a safe hand may ask at.

    `is_bad` tells of the moments of all deeds if they are late, or somebody can be dark.
    """
    @functools.cache
    def first(done):
        if len(done) == len(bounds):
            return None if is_bad(done) else 0
        least, most = bounds[len(done)]
        for moment in range((*done, 0)[len(done) - 1] + 1, end + 1):
            if all(first((*done, moment + delay)) is not None for delay in range(least, most + 1)):
                return moment
        return None
    return first
