"""2.1 to 2.7: realms, slots, items, states, deeds and plans."""

import unittest

from neverdark import realms
from neverdark.errors import NotAllowed
from neverdark.realms import (after, home, is_deed, is_item, is_on, is_plan, is_realm, is_slot, is_state, item_of,
                              lag_of, parent, slots, state_at, zone_names)
from tests.samples import (HOSTS_ITEM, OTHER_HOSTS, OTHER_ITEM, REALM, REALM_SLOTS, SEALED_ITEM, STATE, replaced,
                           state_of, wrong_kinds)

# Values of all forms, none of which is a realm, a slot, an item, a state, a deed or a plan.
OTHERS = ["", ".", "keys", 0, 1, -1, 10 ** 30, ("",), (0,), ((),), ("a", "b"), (1, 2), ((), ()), ((), (), ()),
          ("keys",), ("keys", ".", "."), ("put", (), ()), ("on", (), 0), (((),),), (((), ()), ()), ("", "", ""),
          (0, 0, 0), ("a", 1, "b", 0, 5), ((), 0, (), 0, 0), ((), (), (), (), ()), ("put",), ("off", "s1")]

KEYS = ("keys", "land")
HOSTS = ("hosts", "land")


class Checks(unittest.TestCase):
    def assert_true(self, told, value=None):
        self.assertIs(told, True, repr(value))

    def assert_false(self, told, value=None):
        self.assertIs(told, False, repr(value))


class ConstantsTest(unittest.TestCase):
    def test_constants(self):
        self.assertEqual(
            (realms.MAX_TIME, realms.MAX_LIFE, realms.MAX_LAG, realms.MAX_ZONES, realms.MAX_ANCHORS, realms.MAX_SETS,
             realms.MAX_IDS, realms.MAX_SIGNERS, realms.MAX_PLAN),
            (10000, 1000, 100, 6, 3, 8, 4, 3, 12))


class IsRealmTest(Checks):
    """2.1 and the chain of 2.2."""

    def realm(self, zones=((".", 0),), anchors=("r",), sets=((".", "a"),)):
        return (zones, anchors, sets)

    def test_realms(self):
        self.assert_true(is_realm(REALM))
        self.assert_true(is_realm(self.realm()))

    def test_other_kinds(self):
        for value in OTHERS + wrong_kinds(REALM) + wrong_kinds(self.realm()):
            self.assert_false(is_realm(value), value)

    def test_parts(self):
        self.assert_false(is_realm(REALM[:2]))
        self.assert_false(is_realm(REALM + ((),)))
        self.assert_false(is_realm(()))

    def test_parts_of_pairs(self):
        for zone in ((".",), (".", 0, 0), ()):
            self.assert_false(is_realm(self.realm(zones=(zone,))))
        for pair in ((".",), (".", "a", "b"), ()):
            self.assert_false(is_realm(self.realm(sets=(pair,))))

    def test_number_of_zones(self):
        names = ["a", "b", "c", "d", "e", "f"]
        for many, right in ((5, True), (6, False)):
            zones = ((".", 0),) + tuple([(name, 0) for name in names[:many]])
            sets = tuple([(name, "v") for name in names[:many]])
            self.assertIs(is_realm((zones, ("r",), sets)), right)
        self.assert_false(is_realm(self.realm(zones=())))

    def test_the_first_zone_is_the_root(self):
        self.assert_false(is_realm(self.realm(zones=(("a", 0),), sets=(("a", "v"),))))
        self.assert_false(is_realm(self.realm(zones=(("a", 0), (".", 0)), sets=(("a", "v"),))))
        self.assert_false(is_realm(self.realm(zones=(("a", 0), ("b", 0)), sets=(("a", "v"), ("b", "v")))))
        self.assert_false(is_realm(self.realm(zones=((".", 0), (".", 0)))))
        self.assert_false(is_realm(self.realm(zones=((".", 0), (".", 1)))))

    def test_order_of_zones(self):
        sets = (("a", "v"), ("b", "v"))
        self.assert_true(is_realm(self.realm(zones=((".", 0), ("a", 9), ("b", 0)), sets=sets)))
        self.assert_false(is_realm(self.realm(zones=((".", 0), ("b", 0), ("a", 9)), sets=sets)))
        self.assert_false(is_realm(self.realm(zones=((".", 0), ("a", 0), ("a", 0)), sets=sets)))
        self.assert_false(is_realm(self.realm(zones=((".", 0), ("a", 0), ("a", 1)), sets=sets)))
        self.assert_false(is_realm(self.realm(zones=((".", 0), ("a", 0), ("b", 1), ("b", 2)), sets=sets)))

    def test_names_of_zones(self):
        for name in ("A", "a..b", "", "abcdefghi", "e.d.c.b.a", "a_", "a\n"):
            self.assert_false(is_realm(self.realm(zones=((".", 0), (name, 0)), sets=((name, "v"),))), name)

    def test_lags(self):
        for lag, right in ((-1, False), (0, True), (100, True), (101, False), ("0", False), ((), False)):
            self.assertIs(is_realm(self.realm(zones=((".", lag),))), right, lag)

    def test_anchors(self):
        for anchors, right in [((), False), (("a",), True), (("a", "b", "c"), True), (("a", "b", "c", "d"), False),
                               (("b", "a"), False), (("a", "a"), False), (("abcde",), False), (("",), False),
                               (("A",), False), (("a", 1), False), ("abc", False), ("a", False)]:
            self.assertIs(is_realm(self.realm(anchors=anchors)), right, anchors)

    def test_number_of_sets(self):
        for many, right in ((0, False), (1, True), (8, True), (9, False)):
            sets = tuple([(".", str(kind)) for kind in range(many)])
            self.assertIs(is_realm(self.realm(sets=sets)), right, many)

    def test_order_of_sets(self):
        rows = [((("a", "v"), ("b", "v")), True), ((("a", "v"), ("a", "w")), True), ((("b", "a"), ("a", "b")), False),
                ((("a", "w"), ("a", "v")), False), ((("a", "v"), ("a", "v")), False)]
        for sets, right in rows:
            self.assertIs(is_realm(self.realm(sets=sets)), right, sets)

    def test_names_and_kinds_of_sets(self):
        for pair in (("A", "v"), ("", "v"), ("a.", "v"), ("e.d.c.b.a", "v"), ("a", ""), ("a", "abcde"), ("a", "."),
                     ("a", "V"), ("a", 1), (1, "a"), ("a", ()), ((), "a")):
            self.assert_false(is_realm(self.realm(sets=(pair,))), pair)

    def test_each_zone_is_in_the_chain_of_a_set(self):
        zones = ((".", 0), ("land", 0), ("shop.land", 0))
        self.assert_true(is_realm(self.realm(zones, sets=(("shop.land", "v"),))))
        self.assert_true(is_realm(self.realm(zones, sets=(("www.shop.land", "v"),))))
        self.assert_true(is_realm(self.realm(zones, sets=(("sea", "v"), ("www.shop.land", "v")))))
        self.assert_false(is_realm(self.realm(zones, sets=(("land", "v"),))))
        self.assert_false(is_realm(self.realm(zones, sets=(("workshop.land", "v"),))))
        self.assert_false(is_realm(self.realm(zones, sets=(("shop", "v"), ("www.land", "v")))))
        self.assert_false(is_realm(self.realm(((".", 0), ("land", 0)), sets=((".", "v"),))))


class PlacesTest(Checks):
    """2.2, 2.3: zones, slots, parents, homes, lags."""

    def test_zone_names(self):
        self.assertEqual(zone_names(REALM), (".", "a", "d.c.b.a", "land", "shop.land", "z.y.x"))
        self.assertEqual(zone_names((((".", 5),), ("r",), ((".", "a"),))), (".",))

    def test_slots(self):
        self.assertEqual(slots(REALM), REALM_SLOTS)
        self.assertEqual(slots((((".", 5),), ("r",), ((".", "a"),))), (("keys", "."), ("set", ".", "a")))

    def test_parents(self):
        self.assertEqual([parent(REALM, zone) for zone in zone_names(REALM)[1:]], [".", "a", ".", "land", "."])

    def test_homes(self):
        zones = {".": ".", "a": ".", "d.c.b.a": "a", "land": ".", "shop.land": "land", "z.y.x": "."}
        for zone, above in zones.items():
            self.assertEqual(home(REALM, ("keys", zone)), zone)
            if zone != ".":
                self.assertEqual(home(REALM, ("link", zone)), above)
                self.assertEqual(home(REALM, ("hosts", zone)), above)
        sets = {".": ".", "d.c.b.a": "d.c.b.a", "sea": ".", "www.shop.land": "shop.land", "z.y.x": "z.y.x"}
        for name, kind in REALM[2]:
            self.assertEqual(home(REALM, ("set", name, kind)), sets[name])

    def test_lags(self):
        for slot, lag in [(("keys", "."), 2), (("keys", "a"), 3), (("link", "a"), 2), (("hosts", "a"), 2),
                          (("keys", "d.c.b.a"), 0), (("link", "d.c.b.a"), 3), (("hosts", "d.c.b.a"), 3),
                          (("link", "shop.land"), 100), (("hosts", "z.y.x"), 2), (("keys", "z.y.x"), 4),
                          (("set", ".", "ns"), 2), (("set", "sea", "v"), 2), (("set", "www.shop.land", "b"), 1),
                          (("set", "d.c.b.a", "v"), 0)]:
            self.assertEqual(lag_of(REALM, slot), lag, slot)


class IsSlotTest(Checks):
    """2.3"""

    def test_slots(self):
        for slot in REALM_SLOTS:
            self.assert_true(is_slot(REALM, slot), slot)

    def test_no_slots(self):
        for value in OTHERS + [wrong for slot in REALM_SLOTS for wrong in wrong_kinds(slot)]:
            self.assert_false(is_slot(REALM, value), value)

    def test_slots_of_the_root(self):
        self.assert_false(is_slot(REALM, ("link", ".")))
        self.assert_false(is_slot(REALM, ("hosts", ".")))

    def test_slots_of_another_realm(self):
        for value in (("keys", "sea"), ("keys", "www.shop.land"), ("link", "sea"), ("hosts", "b.a"),
                      ("set", "www.shop.land", "c"), ("set", "shop.land", "a"), ("set", "sea", "a"), ("set", "sea")):
            self.assert_false(is_slot(REALM, value), value)

    def test_parts(self):
        for slot in REALM_SLOTS:
            self.assert_false(is_slot(REALM, slot[:-1]))
            self.assert_false(is_slot(REALM, slot + ("a",)))
            self.assert_false(is_slot(REALM, ("lock",) + slot[1:]))


class IsItemTest(Checks):
    """2.4"""

    def test_items(self):
        for slot in REALM_SLOTS:
            for item in (SEALED_ITEM, OTHER_ITEM, ((), 1, (), 0, 0)):
                self.assertIs(is_item(slot, item), slot[0] != "hosts", slot)
            for item in (HOSTS_ITEM, OTHER_HOSTS):
                self.assert_true(is_item(slot, item), slot)

    def test_other_kinds(self):
        for slot in (KEYS, HOSTS, ("link", "land"), ("set", "sea", "v")):
            for value in OTHERS + wrong_kinds(SEALED_ITEM) + wrong_kinds(OTHER_ITEM) + wrong_kinds(HOSTS_ITEM):
                self.assert_false(is_item(slot, value), value)

    def test_parts(self):
        for slot, item in ((KEYS, SEALED_ITEM), (HOSTS, HOSTS_ITEM)):
            self.assert_false(is_item(slot, item[:4]))
            self.assert_false(is_item(slot, item + (0,)))
            self.assert_false(is_item(slot, item[1:]))

    def test_content(self):
        rows = [((), True), (("a",), True), (("a", "b", "c", "d"), True), (("a", "b", "c", "d", "e"), False),
                (("b", "a"), False), (("a", "a"), False), (("a", "abcde"), False), (("",), False), (("A",), False),
                (("a", "."), False)]
        for content, right in rows:
            self.assertIs(is_item(KEYS, (content, 1, (), 0, 5)), right, content)
            self.assertIs(is_item(HOSTS, (content, 1, (), 0, 10000)), right, content)

    def test_life(self):
        for life, right in ((-1, False), (0, False), (1, True), (1000, True), (1001, False)):
            self.assertIs(is_item(KEYS, ((), life, (), 0, 5)), right, life)
            self.assertIs(is_item(HOSTS, ((), life, (), 0, 10000)), right, life)

    def test_signers(self):
        rows = [((), True), (("a",), True), (("a", "b", "c"), True), (("a", "b", "c", "d"), False),
                (("b", "a"), False), (("a", "a"), False), (("abcde",), False), (("",), False), (("A",), False)]
        for signers, right in rows:
            self.assertIs(is_item(KEYS, ((), 1, signers, 0, 5)), right, signers)

    def test_first_and_last(self):
        rows = [(0, 0, True), (5, 5, True), (6, 5, False), (-1, 5, False), (-1, -1, False), (0, 10000, True),
                (10000, 10000, True), (0, 10001, False), (10001, 10001, False), (1, 0, False)]
        for first, last, right in rows:
            self.assertIs(is_item(KEYS, ((), 1, (), first, last)), right, (first, last))

    def test_hosts_items_are_not_sealed(self):
        for item in ((("a",), 1, ("r",), 0, 10000), (("a",), 1, (), 1, 10000), (("a",), 1, (), 0, 9999),
                     (("a",), 1, (), 0, 10001), (("a",), 1, (), -1, 10000), (("a",), 1, (), 0, 0)):
            self.assert_false(is_item(HOSTS, item), item)


class IsStateTest(Checks):
    """2.5"""

    def test_states(self):
        self.assert_true(is_state(REALM, STATE))
        self.assert_true(is_state(REALM, (STATE[0], ())))

    def test_other_kinds(self):
        for value in OTHERS + wrong_kinds(STATE) + [(), (STATE[0],), STATE + ((),), (STATE[1], STATE[0])]:
            self.assert_false(is_state(REALM, value))

    def test_one_item_for_each_slot(self):
        items, on = STATE
        for at in range(len(items)):
            self.assert_false(is_state(REALM, (items[:at] + items[at + 1:], on)))
            self.assert_false(is_state(REALM, (items[:at] + (items[at],) + items[at:], on)))
            self.assert_false(is_state(REALM, (items[:at] + (items[at - 1],) + items[at + 1:], on)))
        self.assert_false(is_state(REALM, (items + ((("keys", "sea"), SEALED_ITEM),), on)))
        self.assert_false(is_state(REALM, ((), on)))

    def test_slot_order(self):
        items, on = STATE
        for at in range(len(items) - 1):
            swapped = items[:at] + (items[at + 1], items[at]) + items[at + 2:]
            self.assert_false(is_state(REALM, (swapped, on)))

    def test_items_of_their_slots(self):
        items, on = STATE
        for at, (slot, _) in enumerate(items):
            wrong = SEALED_ITEM if slot[0] == "hosts" else (("a",), 0, (), 0, 5)
            self.assert_false(is_state(REALM, (items[:at] + ((slot, wrong),) + items[at + 1:], on)))

    def test_parts_of_the_pairs(self):
        items, on = STATE
        for part in ((items[0][0],), items[0] + (0,), ()):
            self.assert_false(is_state(REALM, ((part,) + items[1:], on)))
        for pair in (("s1",), ("s1", "a", "b"), ()):
            self.assert_false(is_state(REALM, (items, (pair,))))

    def test_servers(self):
        rows = [((("s", "a"),), True), ((("s", "."),), False), ((("s", "sea"),), False), ((("s", "b.a"),), False),
                ((("abcde", "a"),), False), ((("", "a"),), False), ((("S", "a"),), False), ((("s", ""),), False),
                ((("s", "a"), ("s", "land")), True), ((("s", "land"), ("s", "a")), False),
                ((("s", "a"), ("s", "a")), False), ((("s", "land"), ("t", "a")), True),
                ((("t", "a"), ("s", "land")), False)]
        for on, right in rows:
            self.assertIs(is_state(REALM, (STATE[0], on)), right, on)

    def test_any_number_of_servers(self):
        on = tuple([(str(server), "land") for server in range(1000, 1200)])
        self.assert_true(is_state(REALM, (STATE[0], on)))


class StatesTest(Checks):
    """2.5: what is in a state."""

    def test_item_of(self):
        items = tuple([(slot, ((), at + 1, (), 0, 10000)) for at, slot in enumerate(REALM_SLOTS)])
        for at, slot in enumerate(REALM_SLOTS):
            self.assertEqual(item_of((items, ()), slot), ((), at + 1, (), 0, 10000))

    def test_is_on(self):
        for server, zone, right in [("s1", "a", True), ("s2", "land", True), ("x", "z.y.x", True), ("s2", "a", False),
                                    ("x", "land", False), ("y", "a", False)]:
            self.assertIs(is_on(STATE, server, zone), right)
        self.assertIs(is_on((STATE[0], ()), "s1", "a"), False)


class DeedsTest(Checks):
    """2.6"""

    def items(self, slot):
        return (HOSTS_ITEM, OTHER_HOSTS) if slot[0] == "hosts" else (SEALED_ITEM, OTHER_ITEM)

    def assert_not_allowed(self, state, value):
        self.assert_false(is_deed(REALM, state, value), value)
        with self.assertRaises(NotAllowed) as caught:
            after(REALM, state, value)
        self.assertEqual(caught.exception.word, "deed")

    def test_put(self):
        for at, slot in enumerate(REALM_SLOTS):
            for item in self.items(slot):
                deed = ("put", slot, item)
                self.assert_true(is_deed(REALM, STATE, deed), deed)
                items = STATE[0][:at] + ((slot, item),) + STATE[0][at + 1:]
                self.assertEqual(after(REALM, STATE, deed), (items, STATE[1]))

    def test_put_is_not_allowed(self):
        for slot in (("link", "."), ("hosts", "."), ("keys", "sea"), ("set", "sea", "a"), "keys", (), 5):
            self.assert_not_allowed(STATE, ("put", slot, OTHER_HOSTS))
        self.assert_not_allowed(STATE, ("put", HOSTS, SEALED_ITEM))
        self.assert_not_allowed(STATE, ("put", KEYS, (("a",), 0, (), 0, 5)))
        self.assert_not_allowed(STATE, ("put", KEYS, (("b", "a"), 1, (), 0, 5)))
        self.assert_not_allowed(STATE, ("put", KEYS))
        self.assert_not_allowed(STATE, ("put", KEYS, SEALED_ITEM, 0))

    def test_on(self):
        for server, zone, on in [("s2", "a", (("s1", "a"), ("s1", "land"), ("s2", "a"), ("s2", "land"),
                                              ("x", "z.y.x"))),
                                 ("a", "a", (("a", "a"),) + STATE[1]),
                                 ("z", "land", STATE[1] + (("z", "land"),))]:
            self.assert_true(is_deed(REALM, STATE, ("on", server, zone)))
            self.assertEqual(after(REALM, STATE, ("on", server, zone)), (STATE[0], on))
        self.assertEqual(after(REALM, (STATE[0], ()), ("on", "s", "a")), (STATE[0], (("s", "a"),)))

    def test_on_is_not_allowed(self):
        for server, zone in [("s1", "a"), ("x", "z.y.x"), ("s1", "."), ("s1", "sea"), ("abcde", "a"), ("", "a"),
                             ("S", "a"), ("s1", ""), ((), "a"), ("s2", ()), (5, "a"), ("s2", 5)]:
            self.assert_not_allowed(STATE, ("on", server, zone))
        self.assert_not_allowed(STATE, ("on", "s2"))
        self.assert_not_allowed(STATE, ("on", "s2", "a", "a"))

    def test_off(self):
        for at, (server, zone) in enumerate(STATE[1]):
            self.assert_true(is_deed(REALM, STATE, ("off", server, zone)))
            on = STATE[1][:at] + STATE[1][at + 1:]
            self.assertEqual(after(REALM, STATE, ("off", server, zone)), (STATE[0], on))

    def test_off_is_not_allowed(self):
        for server, zone in [("s2", "a"), ("y", "land"), ("s1", "."), ("s1", "sea"), ((), "a"), ("s1", ()), (5, "a"),
                             ("s1", 5), ("abcde", "a")]:
            self.assert_not_allowed(STATE, ("off", server, zone))
        self.assert_not_allowed(STATE, ("off", "s1"))
        self.assert_not_allowed(STATE, ("off", "s1", "a", "a"))

    def test_no_deeds(self):
        for deed in (("put", KEYS, SEALED_ITEM), ("on", "s2", "a"), ("off", "s1", "a")):
            for value in wrong_kinds(deed):
                self.assert_not_allowed(STATE, value)
            self.assert_not_allowed(STATE, ("take",) + deed[1:])
            self.assert_not_allowed(STATE, (deed[0].upper(),) + deed[1:])
            self.assert_not_allowed(STATE, deed[1:])
        for value in OTHERS:
            self.assert_not_allowed(STATE, value)

    def test_the_state_stays(self):
        kept = state_of(REALM_SLOTS, tuple([tuple(list(pair)) for pair in STATE[1]]))
        for deed in (("put", KEYS, OTHER_ITEM), ("on", "s2", "a"), ("off", "s1", "a")):
            after(REALM, STATE, deed)
            self.assertEqual(STATE, kept)
            self.assertRaises(NotAllowed, after, REALM, STATE, deed[:2])
            self.assertEqual(STATE, kept)

    def test_after_gives_states(self):
        for deed in (("put", KEYS, OTHER_ITEM), ("on", "s2", "a"), ("on", "a", "z.y.x"), ("off", "s1", "a")):
            self.assert_true(is_state(REALM, after(REALM, STATE, deed)))


class IsPlanTest(Checks):
    """2.7"""

    def test_plans(self):
        self.assert_true(is_plan(REALM, STATE, ()))
        self.assert_true(is_plan(REALM, STATE, ((1, ("put", KEYS, OTHER_ITEM)),)))
        self.assert_true(is_plan(REALM, STATE, ((1, ("on", "s2", "a")), (2, ("off", "s2", "a")),
                                                (10000, ("on", "s2", "a")))))

    def test_other_kinds(self):
        plan = ((3, ("put", KEYS, OTHER_ITEM)), (5, ("on", "s2", "a")), (9, ("off", "s1", "a")))
        self.assert_true(is_plan(REALM, STATE, plan))
        for value in OTHERS + wrong_kinds(plan):
            self.assert_false(is_plan(REALM, STATE, value), value)

    def test_parts_of_the_pairs(self):
        deed = ("put", KEYS, OTHER_ITEM)
        for step in ((1,), (1, deed, 0), (deed,), (deed, 1), (), deed):
            self.assert_false(is_plan(REALM, STATE, (step,)), step)

    def test_moments(self):
        deed = ("put", KEYS, OTHER_ITEM)
        for moment, right in ((-1, False), (0, False), (1, True), (10000, True), (10001, False)):
            self.assertIs(is_plan(REALM, STATE, ((moment, deed),)), right, moment)
        for moments, right in [((1, 2), True), ((5, 5), False), ((5, 4), False), ((1, 3, 2), False),
                               ((1, 2, 2), False), ((9999, 10000), True), ((10000, 10001), False)]:
            self.assertIs(is_plan(REALM, STATE, tuple([(moment, deed) for moment in moments])), right, moments)

    def test_number_of_deeds(self):
        deed = ("put", KEYS, OTHER_ITEM)
        for many, right in ((12, True), (13, False)):
            self.assertIs(is_plan(REALM, STATE, tuple([(at + 1, deed) for at in range(many)])), right, many)

    def test_deeds_are_allowed_in_turn(self):
        on, off = ("on", "s2", "a"), ("off", "s2", "a")
        put = ("put", KEYS, OTHER_ITEM)
        for deeds, right in [((on, off), True), ((off,), False), ((on, on), False), ((on, off, off), False),
                             ((on, off, on), True), ((put, on, put, off), True), ((put, put), True),
                             ((off, on), False), ((on, ("put", HOSTS, SEALED_ITEM)), False)]:
            plan = tuple([(at + 1, deed) for at, deed in enumerate(deeds)])
            self.assertIs(is_plan(REALM, STATE, plan), right, deeds)


class StateAtTest(Checks):
    """2.7"""

    PLAN = ((3, ("put", KEYS, OTHER_ITEM)), (5, ("on", "s2", "a")), (9, ("off", "s2", "a")),
            (10, ("put", KEYS, SEALED_ITEM)), (11, ("put", HOSTS, OTHER_HOSTS)))

    def test_moments(self):
        states = [STATE]
        for _, deed in self.PLAN:
            states.append(after(REALM, states[-1], deed))
        for moment in range(-3, 14):
            many = len([1 for done, _ in self.PLAN if done <= moment])
            self.assertEqual(state_at(REALM, STATE, self.PLAN, moment), states[many], moment)
        self.assertEqual(state_at(REALM, STATE, self.PLAN, -10 ** 9), STATE)
        self.assertEqual(state_at(REALM, STATE, self.PLAN, 10 ** 9), states[5])

    def test_by_hand(self):
        self.assertEqual(item_of(state_at(REALM, STATE, self.PLAN, 2), KEYS), SEALED_ITEM)
        self.assertEqual(item_of(state_at(REALM, STATE, self.PLAN, 3), KEYS), OTHER_ITEM)
        self.assertEqual(item_of(state_at(REALM, STATE, self.PLAN, 9), KEYS), OTHER_ITEM)
        self.assertEqual(item_of(state_at(REALM, STATE, self.PLAN, 10), KEYS), SEALED_ITEM)
        self.assertEqual([is_on(state_at(REALM, STATE, self.PLAN, moment), "s2", "a") for moment in (4, 5, 8, 9)],
                         [False, True, True, False])

    def test_no_deeds(self):
        for moment in (-5, 0, 5):
            self.assertEqual(state_at(REALM, STATE, (), moment), STATE)


class AnyValueTest(unittest.TestCase):
    """Whatever the value is, the answer is True or False."""

    def test_values_of_any_form(self):
        put = ("put", KEYS, OTHER_ITEM)
        checks = [
            (is_realm, REALM), (lambda value: is_slot(REALM, value), KEYS),
            (lambda value: is_item(KEYS, value), SEALED_ITEM), (lambda value: is_item(HOSTS, value), HOSTS_ITEM),
            (lambda value: is_state(REALM, value), STATE), (lambda value: is_deed(REALM, STATE, value), put),
            (lambda value: is_deed(REALM, STATE, value), ("on", "s2", "a")),
            (lambda value: is_deed(REALM, STATE, value), ("off", "s1", "a")),
            (lambda value: is_plan(REALM, STATE, value), ((3, put), (4, ("on", "s2", "a")), (6, put))),
        ]
        pool = OTHERS + [REALM, KEYS, HOSTS, SEALED_ITEM, HOSTS_ITEM, put, "a", "land", 5, (put, put), (5, put)]
        for check, right in checks:
            self.assertIs(check(right), True)
            for value in replaced(right, pool):
                self.assertIn(check(value), (True, False))
                self.assertIsInstance(check(value), bool)


if __name__ == "__main__":
    unittest.main()
