"""Followers: askers that learn the keys of the root by looking at them from time to time."""

from neverdark.askers import Asker
from neverdark.chains import ROOT, is_good
from neverdark.errors import NotAllowed
from neverdark.realms import item_of, lag_of

MAX_RHYTHM = 1000


def seals_itself(item):
    """Tell if the item has exactly one signer, which is in its own content."""
    content, _, signers, _, _ = item
    return len(signers) == 1 and signers[0] in content


def is_followed(realm, state, deeds):
    """Tell if each keys item of the root, of the start and of the deeds, is sealed by one of its own keys."""
    items = [deed[2] for deed in deeds if deed[:2] == ("put", ROOT)]
    return all([seals_itself(item) for item in [item_of(state, ROOT), *items]])


class Follower(Asker):
    """An asker with a rhythm, which trusts the keys of the root that it has seen for long enough."""

    def __init__(self, world, rhythm):
        super().__init__(world)
        self._every, self._hold = rhythm
        self._last_look = 0
        self._trusted = item_of(world.state, ROOT)[0]
        # From each key that waits to the moment since when it does.
        self._since = {}

    def handle(self, event):
        """Let an event happen; return the answer."""
        if event[0] == "look":
            return self._look(event[1])
        if event[0] == "go" and event[1] > self._last_look + self._every:
            raise NotAllowed("look")
        return super().handle(event)

    def now(self):
        """Return the present moment."""
        return super().now()

    def kept(self):
        """Return the slots, items and ends of keeping of what is usable, in slot order."""
        return super().kept()

    def trusted(self):
        """Return the ascending tuple of the trusted keys."""
        return self._trusted

    def waiting(self):
        """Return the ascending tuple of the keys that wait, each with the moment since when."""
        return tuple(sorted(self._since.items()))

    def looked(self):
        """Return the moment of the last look."""
        return self._last_look

    def _trusting(self):
        zones, _, sets = self._world.realm
        return (zones, self._trusted, sets)

    def _look(self, picks):
        back = picks[0] % (lag_of(self._world.realm, ROOT) + 1) if picks else 0
        item = self._world.current(ROOT, self._moment - back)
        if not is_good(item, self._moment):
            return ("dark", "early" if self._moment < item[3] else "late", ROOT)
        if item[2][0] not in self._trusted:
            return ("dark", "anchor", ROOT)
        self._last_look = self._moment
        self._learn(item[0])
        return ("trusts", self._trusted)

    def _learn(self, content):
        """Trust and wait for keys as the content that was seen at the present moment says."""
        since = {}
        for key in content:
            if key not in self._trusted:
                since[key] = self._since.get(key, self._moment)
        ripe = [key for key, begin in since.items() if self._moment - begin >= self._hold]
        self._trusted = tuple([key for key in content if key in self._trusted or key in ripe])
        self._since = {key: begin for key, begin in since.items() if key not in ripe}


def run_follower(world, rhythm, history):
    """Return the list of the answers of a new follower."""
    follower = Follower(world, rhythm)
    return [follower.handle(event) for event in history]
