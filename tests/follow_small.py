"""Small worlds for followers, and plain ways to find out what followers can trust."""

import random

from neverdark.chains import is_good
from neverdark.realms import home, item_of, lag_of, slots
from neverdark.worlds import World
from tests.small import (Reach, draw_change, draw_history, draw_moments, draw_realm, draw_world, item, plan_at,
                         state_of)

ROOT = ("keys", ".")


def root_item(draw, calm=0.9):
    """Return a keys item of the root that one of its own keys has sealed."""
    content = "".join(sorted(draw.sample("klm", draw.choice([1, 1, 2, 2, 3]))))
    first = 0 if draw.random() < calm else draw.randint(0, 12)
    last = 10000 if draw.random() < calm else draw.randint(first, first + 20)
    return item(content, draw.choice(content), draw.choice([1, 2, 3, 5]), first, last)


def followed_deed(draw, deed):
    """Return the deed, with another item if it puts keys of the root."""
    return (*deed[:2], root_item(draw)) if deed[:2] == ("put", ROOT) else deed


def followed_state(draw, state):
    return (tuple([(slot, root_item(draw) if slot == ROOT else held) for slot, held in state[0]]), state[1])


def draw_followed(seed, most=6):
    """Return a realm, a start and deeds that are followed, in which also other things go wrong."""
    draw = random.Random(seed)
    calm = draw.choice([0.9, 1, 1])
    realm, state, deeds = draw_world(seed, draw.randint(1, most), calm) if seed % 2 else draw_change(seed, most)
    return realm, followed_state(draw, state), tuple([followed_deed(draw, deed) for deed in deeds])


def root_changes(seed, most=4):
    """Return a realm, a start and up to so many changes of the keys of the root, which nothing else minds."""
    draw = random.Random(seed)
    realm = draw_realm(draw)
    sealed = {slot: item("k", "klm", draw.choice([1, 3])) for slot in slots(realm)
              if slot[0] in ("link", "set") and home(realm, slot) == "."}
    state = followed_state(draw, state_of(realm, sealed))
    if draw.random() < 0.5:
        keys = draw.choice(["k", "kl"])
        steps = [item(keys, "k"), item("kl", "k", draw.choice([1, 3])), item("kl", "l"), item("l", "l")]
        state = state_of(realm, {**sealed, ROOT: steps[0]})
        deeds = tuple([("put", ROOT, held) for held in steps[1:][:most]])
    else:
        deeds = tuple([("put", ROOT, root_item(draw, 0.95)) for _ in range(draw.randint(1, most))])
    return realm, state, deeds


def draw_rhythm(draw):
    return draw.choice([(1, 1), (1, 2), (2, 1), (2, 3), (3, 2), (1, 4), (4, 1)])


def follow_worlds(seeds, most=4):
    """Return worlds with a plan and a rhythm."""
    found = []
    for seed in range(seeds):
        draw = random.Random(seed)
        realm, state, deeds = root_changes(seed, most) if seed % 3 else draw_followed(seed, most)
        moments = draw_moments(draw, len(deeds), draw.choice([2, 5, 9]))
        found.append((realm, state, plan_at(moments, deeds), draw_rhythm(draw)))
    return found


class Minds:
    """All that followers can trust and wait for, found by going through all moments and all looks."""

    def __init__(self, realm, state, plan, rhythm):
        self.world = World(realm, state, plan)
        self.lag = lag_of(realm, ROOT)
        self.every, self.hold = rhythm
        # Trusted keys, pairs of a waiting key and its moment, and the moment of the last look.
        self.states = {(frozenset(item_of(state, ROOT)[0]), frozenset(), 0)}

    def look(self, mind, moment, back):
        """Return the dark answer to a look, or None, and what the follower has in mind then."""
        trusted, waiting, _ = mind
        content, _, signers, first, last = seen = self.world.current(ROOT, moment - back)
        if not is_good(seen, moment):
            return ("early" if moment < first else "late", ROOT), mind
        if signers[0] not in trusted:
            return ("anchor", ROOT), mind
        waiting = {key: since for key, since in waiting if key in content}
        trusted = {key for key in trusted if key in content}
        for key in content:
            if key not in trusted:
                since = waiting.setdefault(key, moment)
                if moment - since >= self.hold:
                    trusted.add(key)
                    del waiting[key]
        return None, (frozenset(trusted), frozenset(waiting.items()), moment)

    def step(self, moment):
        """Go to the moment; return the dark answers to looks that are possible at it."""
        dark = set()
        self.states = {mind for mind in self.states if moment <= mind[2] + self.every}
        left = list(self.states)
        while left:
            mind = left.pop()
            for back in range(self.lag + 1):
                wrong, other = self.look(mind, moment, back)
                if wrong is not None:
                    dark.add(wrong)
                elif other not in self.states:
                    self.states.add(other)
                    left.append(other)
        return dark

    def trusted(self):
        """Return all sets of keys that some follower trusts, ascending tuples."""
        return sorted({tuple(sorted(mind[0])) for mind in self.states})


def plain_follow_judge(realm, state, plan, rhythm, end):
    """Return the least moment with a dark answer of a follower and all dark answers at it, or None."""
    minds = Minds(realm, state, plan, rhythm)
    reach = Reach(realm, state, plan)
    for moment in range(end + 1):
        dark = minds.step(moment)
        dark |= reach.step(moment, [(realm[0], keys, realm[2]) for keys in minds.trusted()])
        if dark:
            return moment, dark
    return None


def draw_follow_history(draw, realm, state, plan, rhythm, end):
    """Return a history of a follower without plants that goes up to the end."""
    events = []
    looked = now = 0
    for event in draw_history(draw, realm, state, plan, end):
        if event[0] == "go":
            while event[1] > looked + rhythm[0]:
                looked = draw.randint(max(now, looked + 1), min(looked + rhythm[0], event[1]))
                now = looked
                events.extend([("go", looked), ("look", tuple(draw.choices(range(5), k=draw.randint(0, 2))))])
            events.append(event)
            now = event[1]
            if draw.random() < 0.4:
                looked = now
                events.append(("look", (draw.randint(0, 9),)))
        else:
            events.append(event)
    return tuple(events)
