"""The world that an asker is in."""

from neverdark.realms import is_on, item_of, state_at


class World:
    """A realm with a start and a plan for it, looked at moment by moment."""

    def __init__(self, realm, state, plan):
        self.realm = realm
        self.state = state
        self.plan = plan

    def current(self, slot, moment):
        """Return the item of the slot at the moment."""
        return item_of(state_at(self.realm, self.state, self.plan, moment), slot)

    def is_on(self, server, zone, moment):
        """Tell if the server is on for the zone at the moment."""
        return is_on(state_at(self.realm, self.state, self.plan, moment), server, zone)
