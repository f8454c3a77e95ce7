"""Askers: what one asker gets, keeps and is told, event by event."""

from neverdark.chains import fault, needed
from neverdark.errors import NeverdarkError, NotAllowed
from neverdark.realms import home, lag_of, slots


class Dark(NeverdarkError):
    """The asker has no complete chain; callers see a dark answer instead."""

    def __init__(self, word, slot):
        super().__init__(f"dark: {word}")
        self.word = word
        self.slot = slot


class Asker:
    """One asker in one world, which keeps what it fetched for some time."""

    def __init__(self, world):
        self._world = world
        self._moment = 0
        self._stock = {}
        self._picks = ()
        self._taken = 0

    def handle(self, event):
        """Let an event happen; return the answer."""
        try:
            return self._answer(event)
        except Dark as dark:
            return ("dark", dark.word, dark.slot)

    def now(self):
        """Return the present moment."""
        return self._moment

    def kept(self):
        """Return the slots, items and ends of keeping of what is usable, in slot order."""
        places = [slot for slot in slots(self._world.realm) if self._usable(slot) is not None]
        return [(slot, *self._stock[slot]) for slot in places]

    def _answer(self, event):
        match event:
            case ("go", moment):
                return self._go(moment)
            case ("fill", slot, picks):
                self._begin_picks(picks)
                return ("kept", self._get(slot))
            case ("ask", name, kind, picks):
                self._begin_picks(picks)
                return self._ask(name, kind)
            case ("drop", slot):
                return self._drop(slot)
            case ("plant", slot, item):
                self._keep(slot, item)
                return ("planted",)
            case _:
                return ("lost",)

    def _go(self, moment):
        if moment < self._moment:
            raise NotAllowed("time")
        self._moment = moment
        return ("gone",)

    def _ask(self, name, kind):
        places = needed(self._world.realm, name, kind)
        held = {slot: self._get(slot) for slot in places}
        wrong = fault(self._trusting(), held, name, kind, self._moment)
        if wrong is not None:
            return ("dark", *wrong)
        return ("told", tuple([(slot, held[slot]) for slot in places]))

    def _trusting(self):
        """Return the realm, with the keys that the asker trusts as its anchors."""
        return self._world.realm

    def _drop(self, slot):
        if self._usable(slot) is None:
            return ("none",)
        del self._stock[slot]
        return ("dropped",)

    def _keep(self, slot, item):
        self._stock[slot] = (item, self._moment + item[1])

    def _usable(self, slot):
        """Return the item of the slot that is kept and usable, or None."""
        item, until = self._stock.get(slot, (None, 0))
        return item if self._moment < until else None

    def _begin_picks(self, picks):
        self._picks = picks
        self._taken = 0

    def _take(self):
        """Return the next number of the picks."""
        at = self._taken
        self._taken = at + 1
        return self._picks[at] if at < len(self._picks) else 0

    def _get(self, slot):
        """Return the item of the slot, fetched if no usable one is kept; raise Dark if that fails."""
        if self._usable(slot) is None:
            self._fetch(slot)
        return self._stock[slot][0]

    def _fetch(self, slot):
        zone = home(self._world.realm, slot)
        servers = self._servers(zone)
        back = self._take() % (lag_of(self._world.realm, slot) + 1)
        # Nobody has to be found for the root: its servers are always on.
        if zone != "." and not self._world.is_on(servers[self._take() % len(servers)], zone, self._moment):
            raise Dark("lame", ("hosts", zone))
        self._keep(slot, self._world.current(slot, self._moment - back))

    def _servers(self, zone):
        """Return the servers that the asker knows for the zone, none for the root."""
        if zone == ".":
            return ()
        servers = self._get(("hosts", zone))[0]
        if not servers:
            raise Dark("hosts", ("hosts", zone))
        return servers


def run_history(world, history):
    """Return the list of the answers of a new asker."""
    asker = Asker(world)
    return [asker.handle(event) for event in history]
