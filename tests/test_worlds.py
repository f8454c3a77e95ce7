"""4.1: the world."""

import unittest

from neverdark.worlds import World
from tests.samples import HOSTS_ITEM, OTHER_HOSTS, OTHER_ITEM, REALM, REALM_SLOTS, SEALED_ITEM, STATE

KEYS = ("keys", "land")
HOSTS = ("hosts", "land")
PLAN = ((3, ("put", KEYS, OTHER_ITEM)), (5, ("on", "s3", "a")), (7, ("off", "s1", "land")),
        (9, ("off", "s3", "a")), (10, ("put", HOSTS, OTHER_HOSTS)), (10000, ("put", KEYS, SEALED_ITEM)))


class WorldTest(unittest.TestCase):
    def setUp(self):
        self.world = World(REALM, STATE, PLAN)

    def test_fields(self):
        self.assertEqual((self.world.realm, self.world.state, self.world.plan), (REALM, STATE, PLAN))

    def test_current(self):
        for moment, item in [(-10 ** 6, SEALED_ITEM), (-1, SEALED_ITEM), (0, SEALED_ITEM), (2, SEALED_ITEM),
                             (3, OTHER_ITEM), (4, OTHER_ITEM), (9999, OTHER_ITEM), (10000, SEALED_ITEM)]:
            self.assertEqual(self.world.current(KEYS, moment), item, moment)
        for moment, item in ((-1, HOSTS_ITEM), (9, HOSTS_ITEM), (10, OTHER_HOSTS), (11, OTHER_HOSTS)):
            self.assertEqual(self.world.current(HOSTS, moment), item, moment)

    def test_other_slots_stay(self):
        for moment in (-1, 3, 10, 10000):
            for slot in REALM_SLOTS:
                if slot not in (KEYS, HOSTS):
                    item = HOSTS_ITEM if slot[0] == "hosts" else SEALED_ITEM
                    self.assertEqual(self.world.current(slot, moment), item)

    def test_is_on(self):
        for moment, right in [(-10 ** 6, False), (-1, False), (0, False), (4, False), (5, True), (8, True), (9, False),
                              (10, False)]:
            self.assertIs(self.world.is_on("s3", "a", moment), right, moment)
        for moment, right in ((-1, True), (0, True), (6, True), (7, False), (8, False), (10000, False)):
            self.assertIs(self.world.is_on("s1", "land", moment), right, moment)
        for moment in (-1, 0, 7, 10000):
            self.assertIs(self.world.is_on("s1", "a", moment), True)
            self.assertIs(self.world.is_on("s3", "land", moment), False)

    def test_looking_changes_nothing(self):
        self.world.current(KEYS, 10000)
        self.world.is_on("s3", "a", 10000)
        self.assertEqual(self.world.current(KEYS, 4), OTHER_ITEM)
        self.assertEqual((self.world.realm, self.world.state, self.world.plan), (REALM, STATE, PLAN))

    def test_no_deeds(self):
        world = World(REALM, STATE, ())
        self.assertEqual(world.current(KEYS, 5), SEALED_ITEM)
        self.assertIs(world.is_on("s1", "a", -5), True)


if __name__ == "__main__":
    unittest.main()
