"""5.1 to 5.3: spans, and what any asker can hold."""

import random
import unittest

from neverdark.holding import can_hold, off_spans, over, spans
from neverdark.judge import judge
from neverdark.realms import lag_of, slots
from tests.small import Reach, draw_moments, draw_world, hosts, item, plan_at, realm_of, state_of

REALM = realm_of({".": 1, "land": 2, "b.land": 3}, ((".", "ns"), ("b.land", "v"), ("land", "v"), ("land", "w")))
KEYS = ("keys", "land")
SET = ("set", "land", "v")
OLD = item("k", "k", 5)
NEW = item("l", "k", 3)
STATE = state_of(REALM, life=5)


class SpansTest(unittest.TestCase):
    def test_a_slot_that_no_deed_puts(self):
        others = ((3, ("put", ("set", "land", "w"), NEW)), (4, ("off", "s", "land")), (5, ("put", ("keys", "."), NEW)))
        for plan in ((), others):
            self.assertEqual(spans(REALM, STATE, plan, SET), [(OLD, 0, None)])
            self.assertEqual(spans(REALM, STATE, plan, KEYS), [(OLD, 0, None)])

    def test_a_slot_that_is_put_several_times(self):
        plan = ((1, ("put", SET, NEW)), (3, ("put", KEYS, NEW)), (4, ("put", SET, OLD)), (10000, ("put", SET, NEW)))
        self.assertEqual(spans(REALM, STATE, plan, SET),
                         [(OLD, 0, 1), (NEW, 1, 4), (OLD, 4, 10000), (NEW, 10000, None)])
        self.assertEqual(spans(REALM, STATE, plan, KEYS), [(OLD, 0, 3), (NEW, 3, None)])

    def test_an_equal_item_begins_a_new_span(self):
        plan = ((3, ("put", SET, OLD)), (4, ("put", SET, OLD)))
        self.assertEqual(spans(REALM, STATE, plan, SET), [(OLD, 0, 3), (OLD, 3, 4), (OLD, 4, None)])

    def test_each_kind_of_slot(self):
        for slot in slots(REALM):
            new = hosts("t", 3) if slot[0] == "hosts" else NEW
            old = hosts("s", 5) if slot[0] == "hosts" else OLD
            plan = plan_at((2, 4, 6), [("put", slot, new), ("on", "x", "land"), ("put", slot, old)])
            self.assertEqual(spans(REALM, STATE, plan, slot), [(old, 0, 2), (new, 2, 6), (old, 6, None)])

    def test_a_change_of_the_list_has_no_effect(self):
        plan = ((3, ("put", SET, NEW)),)
        spans(REALM, STATE, plan, SET).clear()
        self.assertEqual(spans(REALM, STATE, plan, SET), [(OLD, 0, 3), (NEW, 3, None)])
        self.assertIsInstance(spans(REALM, STATE, plan, SET), list)


class OffSpansTest(unittest.TestCase):
    PLAN = ((2, ("off", "s", "land")), (3, ("on", "t", "land")), (5, ("on", "s", "land")), (6, ("on", "s", "b.land")),
            (7, ("off", "t", "land")), (8, ("off", "s", "land")), (9, ("off", "s", "b.land")))
    STATE = state_of(REALM, on=[("s", "land"), ("u", "land")])

    def test_on_from_the_start(self):
        self.assertEqual(off_spans(self.STATE, (), "s", "land"), [])
        self.assertEqual(off_spans(self.STATE, self.PLAN, "u", "land"), [])

    def test_off_from_the_start(self):
        self.assertEqual(off_spans(self.STATE, (), "t", "land"), [(0, None)])
        self.assertEqual(off_spans(self.STATE, self.PLAN, "t", "land"), [(0, 3), (7, None)])

    def test_turned_off_and_on(self):
        self.assertEqual(off_spans(self.STATE, self.PLAN, "s", "land"), [(2, 5), (8, None)])
        self.assertEqual(off_spans(self.STATE, self.PLAN[:4], "s", "land"), [(2, 5)])
        self.assertEqual(off_spans(self.STATE, self.PLAN[:1], "s", "land"), [(2, None)])

    def test_the_zone_matters(self):
        self.assertEqual(off_spans(self.STATE, self.PLAN, "s", "b.land"), [(0, 6), (9, None)])
        self.assertEqual(off_spans(self.STATE, self.PLAN, "u", "b.land"), [(0, None)])

    def test_never_named(self):
        self.assertEqual(off_spans(self.STATE, self.PLAN, "zz", "land"), [(0, None)])

    def test_turned_on_and_off_at_neighbouring_moments(self):
        plan = plan_at((1, 2, 3, 4), [("on", "t", "land"), ("off", "t", "land")] * 2)
        self.assertEqual(off_spans(self.STATE, plan, "t", "land"), [(0, 1), (2, 3), (4, None)])

    def test_a_change_of_the_list_has_no_effect(self):
        off_spans(self.STATE, self.PLAN, "s", "land").clear()
        self.assertEqual(off_spans(self.STATE, self.PLAN, "s", "land"), [(2, 5), (8, None)])


class OverTest(unittest.TestCase):
    def test_lags_and_lives(self):
        for slot, lag in ((("keys", "."), 1), (("link", "land"), 1), (("hosts", "land"), 1), (KEYS, 2), (SET, 2),
                          (("link", "b.land"), 2), (("hosts", "b.land"), 2), (("keys", "b.land"), 3),
                          (("set", "b.land", "v"), 3)):
            for life in (1, 2, 1000):
                for end in (1, 7, 10000):
                    self.assertEqual(over(REALM, slot, item("k", "k", life), end), end - 1 + lag + life, slot)

    def test_no_lag(self):
        self.assertEqual(over(realm_of({".": 0}), ("keys", "."), item("k", "k", 1), 8), 8)


class CanHoldTest(unittest.TestCase):
    def test_an_item_that_ends(self):
        # The old item is over at 10 - 1 + 2 + 5 = 16.
        plan = ((10, ("put", SET, NEW)),)
        for moment, held in ((0, [OLD]), (9, [OLD]), (10, [OLD, NEW]), (15, [OLD, NEW]), (16, [NEW]), (10000, [NEW])):
            self.assertEqual(can_hold(REALM, STATE, plan, SET, moment), held, moment)

    def test_begin_and_over_of_an_item_between(self):
        # The new item is over at 12 - 1 + 2 + 3 = 16, too.
        last = item("z", "k", 1)
        plan = ((10, ("put", SET, NEW)), (12, ("put", SET, last)))
        for moment, held in ((9, [OLD]), (10, [OLD, NEW]), (11, [OLD, NEW]), (12, [OLD, NEW, last]),
                             (15, [OLD, NEW, last]), (16, [last])):
            self.assertEqual(can_hold(REALM, STATE, plan, SET, moment), held, moment)

    def test_no_lag_and_a_life_of_1(self):
        realm = realm_of({".": 0})
        slot = ("set", ".", "v")
        state = state_of(realm, {slot: item("a", "k", 1)})
        plan = ((4, ("put", slot, NEW)),)
        self.assertEqual(can_hold(realm, state, plan, slot, 3), [item("a", "k", 1)])
        self.assertEqual(can_hold(realm, state, plan, slot, 4), [NEW])

    def test_equal_items_of_two_spans_stand_there_twice(self):
        plan = ((10, ("put", SET, OLD)), (12, ("put", SET, NEW)))
        self.assertEqual(can_hold(REALM, STATE, plan, SET, 9), [OLD])
        self.assertEqual(can_hold(REALM, STATE, plan, SET, 10), [OLD, OLD])
        self.assertEqual(can_hold(REALM, STATE, plan, SET, 15), [OLD, OLD, NEW])
        self.assertEqual(can_hold(REALM, STATE, plan, SET, 16), [OLD, NEW])
        self.assertEqual(can_hold(REALM, STATE, plan, SET, 18), [NEW])

    def test_a_short_life_behind_a_long_one(self):
        plan = ((1, ("put", SET, NEW)), (2, ("put", SET, item("z", "k", 1))), (3, ("put", SET, OLD)))
        self.assertEqual(can_hold(REALM, STATE, plan, SET, 4), [OLD, NEW, item("z", "k", 1), OLD])
        self.assertEqual(can_hold(REALM, STATE, plan, SET, 5), [OLD, NEW, OLD])
        self.assertEqual(can_hold(REALM, STATE, plan, SET, 6), [OLD, OLD])
        self.assertEqual(can_hold(REALM, STATE, plan, SET, 7), [OLD])

    def test_the_rule_holds_also_behind_a_dark_moment(self):
        # 5.3: the rule counts as it stands, whether some asker is dark or not.
        plan = ((10, ("put", SET, item("x", "x", 3))),)
        self.assertEqual(can_hold(REALM, STATE, plan, SET, 15), [OLD, item("x", "x", 3)])

    def test_a_change_of_the_list_has_no_effect(self):
        can_hold(REALM, STATE, (), SET, 5).clear()
        self.assertEqual(can_hold(REALM, STATE, (), SET, 5), [OLD])

    def test_what_askers_can_keep(self):
        # 5.2: as long as nothing is dark, these are just the items that some asker can keep.
        compared = 0
        for seed in range(120):
            realm, state, deeds = draw_world(seed, calm=1)
            draw = random.Random(seed)
            plan = plan_at(draw_moments(draw, len(deeds), 4), deeds)
            dark = judge(realm, state, plan, 25)
            reach = Reach(realm, state, plan)
            for moment in range(25 if dark is None else dark[0]):
                self.assertEqual(reach.step(moment), set())
                for slot in slots(realm):
                    self.assertEqual(set(can_hold(realm, state, plan, slot, moment)), set(reach.kept[slot]))
                    compared += len(reach.kept[slot])
        self.assertGreater(compared, 10000)


class LagTest(unittest.TestCase):
    def test_the_lag_is_the_one_of_the_home(self):
        for slot in slots(REALM):
            new = hosts("t", 3) if slot[0] == "hosts" else NEW
            old = hosts("s", 5) if slot[0] == "hosts" else OLD
            plan = ((10, ("put", slot, new)),)
            stop = 10 - 1 + lag_of(REALM, slot) + 5
            self.assertEqual(can_hold(REALM, STATE, plan, slot, stop - 1), [old, new])
            self.assertEqual(can_hold(REALM, STATE, plan, slot, stop), [new])


if __name__ == "__main__":
    unittest.main()
