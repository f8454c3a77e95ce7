"""9.1 to 9.5: until when something false can be told."""

import itertools
import random
import time
import unittest

from neverdark.askers import Asker
from neverdark.chains import fits, is_anchored, is_good, needed
from neverdark.holding import spans
from neverdark.lost import can_be_false, can_plant, clean_from, false_history, is_lost, is_strange
from neverdark.realms import home, is_item, slots
from neverdark.worlds import World
from tests.samples import replaced, wrong_kinds
from tests.small import (LAST, draw_change, draw_moments, draw_world, hosts, item, plan_at, realm_of, state_of)

REALM = realm_of({".": 1, "land": 2, "b.land": 3}, ((".", "ns"), ("b.land", "v"), ("land", "v"), ("land", "w")))
ROOT = ("keys", ".")
LINK = ("link", "land")
KEYS = ("keys", "land")
HOSTS = ("hosts", "land")
SET = ("set", "land", "v")
OTHER_SET = ("set", "land", "w")
TOP = ("set", ".", "ns")
LOW_LINK = ("link", "b.land")
LOW_KEYS = ("keys", "b.land")
LOW_SET = ("set", "b.land", "v")
START = state_of(REALM, life=5)


class IsLostTest(unittest.TestCase):
    GOOD = ((".", "k", 3), ("b.land", "x", 0), ("land", "k", 10000), ("land", "l", 7))

    def assert_lost(self, right, value):
        self.assertIs(is_lost(REALM, value), right, value)

    def test_right_values(self):
        self.assert_lost(True, ())
        self.assert_lost(True, self.GOOD)
        for size in range(1, 5):
            for part in itertools.combinations(self.GOOD, size):
                self.assert_lost(True, part)
        self.assert_lost(True, tuple([("land", key, 9) for key in ("0", "1", "9999", "a", "ab", "zzzz")]))

    def test_zones(self):
        for zone in ("shop", "land.", "b", "", "a.land", "www.land", 5, (), ("land",)):
            self.assert_lost(False, ((zone, "k", 3),))
        self.assertIs(is_lost(realm_of({".": 0}), (("land", "k", 3),)), False)
        self.assertIs(is_lost(realm_of({".": 0}), ((".", "k", 3),)), True)

    def test_keys(self):
        for key in ("", "abcde", "K", "k-", "k.l", "-", "\u00e4", 5, (), ("k",)):
            self.assert_lost(False, (("land", key, 3),))

    def test_moments(self):
        for moment, right in ((0, True), (10000, True), (-1, False), (10001, False), ("3", False), ((), False)):
            self.assert_lost(right, (("land", "k", moment),))

    def test_the_order(self):
        for order in itertools.permutations(self.GOOD):
            self.assert_lost(order == self.GOOD, order)

    def test_no_pair_twice(self):
        for at, (zone, key, moment) in enumerate(self.GOOD):
            for other in (moment - 1, moment, moment + 1):
                double = ((zone, key, min(moment, other)), (zone, key, max(moment, other)))
                self.assert_lost(False, self.GOOD[:at] + double + self.GOOD[at + 1:])
        self.assert_lost(True, ((".", "k", 3), ("land", "k", 3)))

    def test_other_values(self):
        for value in wrong_kinds(self.GOOD) + [list(self.GOOD), "", "ab", 0, 5, ((),), (("land", "k"),),
                                               (("land", "k", 3, 3),), ("land", "k", 3)]:
            self.assert_lost(False, value)
        for value in replaced(self.GOOD, ["", 7, (), ("land",), ("land", "m", 4)]):
            self.assertIn(is_lost(REALM, value), (True, False))


class IsStrangeTest(unittest.TestCase):
    def assert_strange(self, zones, key="x", items=(), deeds=(), realm=REALM):
        """Check in which zones the key is strange."""
        state = state_of(realm, items)
        plan = plan_at(range(3, 99), deeds)
        for zone in (".", "land", "b.land"):
            self.assertIs(is_strange(realm, state, plan, zone, key), zone in zones, zone)

    def test_keys_that_occur_nowhere(self):
        self.assert_strange((".", "land", "b.land"))
        self.assert_strange((), key="k")
        self.assert_strange((".", "land", "b.land"), key="s")

    def test_the_content_of_keys_and_links(self):
        for slot, others in ((ROOT, ("land", "b.land")), (KEYS, (".", "b.land")), (LINK, (".", "b.land")),
                             (LOW_KEYS, (".", "land")), (LOW_LINK, (".", "land"))):
            self.assert_strange(others, items={slot: item("kx", "k")})
            self.assert_strange(others, deeds=[("put", HOSTS, hosts("st")), ("put", slot, item("x", "k"))])
            self.assert_strange(others, deeds=[("put", slot, item("x", "k")), ("put", slot, item("k", "k"))])

    def test_signers(self):
        # They are keys of the home: of the parent for a link.
        for slot, others in ((ROOT, ("land", "b.land")), (KEYS, (".", "b.land")), (LINK, ("land", "b.land")),
                             (LOW_KEYS, (".", "land")), (LOW_LINK, (".", "b.land")), (SET, (".", "b.land")),
                             (TOP, ("land", "b.land")), (LOW_SET, (".", "land"))):
            self.assert_strange(others, items={slot: item("k", "kx")})
            self.assert_strange(others, deeds=[("put", slot, item("k", "x", 1, 5, 6)), ("put", slot, item("k", "k"))])

    def test_hosts_and_sets_do_not_matter(self):
        everywhere = (".", "land", "b.land")
        self.assert_strange(everywhere, items={HOSTS: hosts("sx"), SET: item("x", "k"), LOW_SET: item("ax", "k")})
        self.assert_strange(everywhere, deeds=[("put", HOSTS, hosts("x")), ("put", TOP, item("x", "k")),
                                               ("on", "x", "land"), ("off", "x", "land")])

    def test_anchors(self):
        realm = (REALM[0], ("k", "x"), REALM[2])
        self.assert_strange(("land", "b.land"), realm=realm)
        self.assert_strange((".", "land", "b.land"), key="y", realm=realm)


class CanPlantTest(unittest.TestCase):
    LOST = ((".", "k", 4), ("b.land", "k", 6), ("land", "k", 10), ("land", "l", 20))

    def plant(self, slot, planted, moment, plan=(), lost=LOST, state=START):
        self.assertIs(is_item(slot, planted), True)
        told = can_plant(REALM, state, plan, lost, slot, planted, moment)
        self.assertIn(told, (True, False))
        return told

    def test_no_signers(self):
        for slot in slots(REALM):
            planted = hosts("x") if slot[0] == "hosts" else item("x", "")
            for moment in (0, 9, LAST):
                self.assertTrue(self.plant(slot, planted, moment, lost=()))

    def test_lost_signers(self):
        # The moments of the key k of the home of each slot.
        for slot, moment in ((ROOT, 4), (LINK, 4), (TOP, 4), (KEYS, 10), (LOW_LINK, 10), (SET, 10), (OTHER_SET, 10),
                             (LOW_KEYS, 6), (LOW_SET, 6)):
            self.assertFalse(self.plant(slot, item("x", "k"), moment - 1))
            self.assertTrue(self.plant(slot, item("x", "k"), moment))
            self.assertTrue(self.plant(slot, item("x", "k"), LAST))
            self.assertFalse(self.plant(slot, item("x", "k"), LAST, lost=()))

    def test_the_moment_0(self):
        self.assertTrue(self.plant(SET, item("x", "k"), 0, lost=(("land", "k", 0),)))

    def test_several_signers(self):
        state = state_of(REALM, {LINK: item("klm", "k")})
        plan = ((2, ("put", OTHER_SET, item("k", "k"))),)
        for signers, moment in (("kl", 20), ("l", 20), ("k", 10), ("kz", 10), ("klz", 20), ("z", 0), ("yz", 0)):
            for lost_from, right in ((moment, True), (moment - 1, False)):
                if lost_from >= 0:
                    self.assertIs(self.plant(SET, item("x", signers), lost_from, plan, state=state), right, signers)
        for signers in ("m", "km", "lm", "klm", "mz", "kmz"):
            self.assertFalse(self.plant(SET, item("x", signers), LAST, plan, state=state))

    def test_strange_signers(self):
        for slot in (ROOT, LINK, KEYS, TOP, SET, LOW_LINK, LOW_KEYS, LOW_SET):
            self.assertTrue(self.plant(slot, item("x", "z"), 0, lost=()))
            self.assertTrue(self.plant(slot, item("z", "z"), 0, lost=()))
        # A key of one zone is strange in another one; one of a deed to come is not.
        plan = ((50, ("put", KEYS, item("kz", "k"))),)
        for slot, right in ((SET, False), (LOW_LINK, False), (KEYS, False), (LINK, True), (LOW_KEYS, True)):
            self.assertIs(self.plant(slot, item("x", "z"), 3, plan, ()), right, slot)

    def test_items_that_are_published(self):
        # Other signers than k would be strange.
        state = state_of(REALM, {SET: item("a", "k")})
        plan = plan_at((5, 9), [("put", SET, item("b", "k", 3, 4, 7)), ("put", SET, item("c", "k"))])
        for planted, moment in ((item("a", "k"), 0), (item("b", "k", 3, 4, 7), 5), (item("c", "k"), 9)):
            for later in (moment, moment + 1, moment + 50, LAST):
                self.assertTrue(self.plant(SET, planted, later, plan, (), state))
            if moment:
                self.assertFalse(self.plant(SET, planted, moment - 1, plan, (), state))
                self.assertFalse(self.plant(SET, planted, 0, plan, (), state))
        for other in (item("b", "k", 2, 4, 7), item("b", "k", 3, 3, 7), item("b", "k", 3, 4, 8), item("bc", "k")):
            self.assertFalse(self.plant(SET, other, LAST, plan, (), state))

    def test_items_of_another_slot(self):
        state = state_of(REALM, {SET: item("a", "k"), OTHER_SET: item("b", "k")})
        self.assertFalse(self.plant(SET, item("b", "k"), 9, (), (), state))
        self.assertTrue(self.plant(OTHER_SET, item("b", "k"), 9, (), (), state))

    def test_some_signers_published_do_not_help(self):
        state = state_of(REALM, {SET: item("a", "kl", 2)})
        self.assertFalse(self.plant(SET, item("a", "k", 2), 9, (), (), state))
        self.assertTrue(self.plant(SET, item("a", "kl", 2), 9, (), (), state))


class Falsity(unittest.TestCase):
    def assert_false_at(self, moments, lost, items=(), plan=(), place=LOW_SET, realm=REALM, end=40):
        """Check at which of the moments up to the end something false can be told, and a history for each."""
        state = state_of(realm, items, life=5)
        name, kind = place[1:]
        wanted = [moment for moment in range(end + 1) if moment in moments]
        told = []
        for moment in range(end + 1):
            right = can_be_false(realm, state, plan, lost, name, kind, moment)
            self.assertIn(right, (True, False))
            if right:
                told.append(moment)
            check_history(self, realm, state, plan, lost, name, kind, moment, right)
        self.assertEqual(told, wanted)
        for last in {0, end // 2, end - 1, end} | {moment for moment in wanted} | {moment - 1 for moment in wanted}:
            if last >= 0:
                least = max([moment + 1 for moment in wanted if moment <= last], default=0)
                self.assertEqual(clean_from(realm, state, plan, lost, name, kind, last), least, last)


def check_history(test, realm, state, plan, lost, name, kind, moment, right):
    """Check what `false_history` says, event by event."""
    events = false_history(realm, state, plan, lost, name, kind, moment)
    if not right:
        test.assertIsNone(events)
        return
    test.assertIsInstance(events, tuple)
    asker = Asker(World(realm, state, plan))
    losses = []
    for event in events:
        if event[0] == "plant":
            test.assertIs(is_item(*event[1:]), True)
            test.assertIn(event[1], slots(realm))
            test.assertIs(can_plant(realm, state, plan, lost, *event[1:], asker.now()), True)
        if event[0] == "lose":
            losses.append((*event[1:], asker.now()))
        answer = asker.handle(event)
    test.assertEqual(sorted(losses), [part for part in lost if part[2] <= moment])
    test.assertEqual(event[:3], ("ask", name, kind))
    test.assertEqual(asker.now(), moment)
    test.assertEqual(answer[0], "told")
    slot, told = answer[1][-1]
    test.assertEqual(slot, ("set", name, kind))
    contents = [row[0][0] for row in spans(realm, state, plan, slot) if row[1] <= moment]
    test.assertNotIn(told[0], contents)


class FalseTest(Falsity):
    """9.4 and 9.5."""

    def test_without_lost_keys(self):
        self.assert_false_at((), ())
        self.assert_false_at((), (), {SET: item("v", "z"), ROOT: item("k", "x")})

    def test_a_lost_anchor(self):
        for place in (TOP, SET, LOW_SET):
            self.assert_false_at(range(7, 41), ((".", "k", 7),), place=place)
            self.assert_false_at(range(41), ((".", "k", 0),), place=place)
        realm = realm_of({".": 1, "land": 2}, anchors=("k", "r"))
        # The anchor r occurs nowhere else, and no item is good.
        items = {slot: item("k", "k", 1, 50) for slot in slots(realm) if slot[0] != "hosts"}
        self.assert_false_at(range(7, 41), ((".", "r", 7),), items, place=("set", "land", "v"), realm=realm)
        self.assert_false_at((), (("land", "r", 7),), items, place=("set", "land", "v"), realm=realm)

    def test_an_anchor_as_a_key_of_another_zone(self):
        # As a key of b.land only, and that zone stands in the chain of one set alone.
        self.assert_false_at(range(7, 41), (("b.land", "k", 7),), place=LOW_SET)
        self.assert_false_at((), (("b.land", "k", 7),), place=SET)

    def test_a_key_in_the_content_of_each_slot(self):
        for slot, zone, reached in ((ROOT, ".", (TOP, SET, LOW_SET)), (LINK, "land", (SET, LOW_SET)),
                                    (KEYS, "land", (SET, LOW_SET)), (LOW_LINK, "b.land", (LOW_SET,)),
                                    (LOW_KEYS, "b.land", (LOW_SET,))):
            for place in (TOP, SET, LOW_SET):
                moments = range(7, 41) if place in reached else ()
                self.assert_false_at(moments, ((zone, "x", 7),), {slot: item("kx", "k")}, place=place)
            for other in (".", "land", "b.land"):
                if other != zone:
                    self.assert_false_at((), ((other, "x", 7),), {slot: item("kx", "k")}, place=LOW_SET)

    def test_a_key_that_is_no_key(self):
        # The content of a set or a hosts item, and signers, name no keys.
        items = {LOW_SET: item("x", "k"), HOSTS: hosts("sx"), LOW_KEYS: item("k", "kx")}
        for zone in ("land", "b.land"):
            self.assert_false_at((), ((zone, "x", 7),), items)

    def test_the_moment_of_the_item_and_that_of_the_loss(self):
        for zone, slot in ((".", ROOT), ("land", LINK), ("land", KEYS), ("b.land", LOW_LINK), ("b.land", LOW_KEYS)):
            plan = ((9, ("put", slot, item("kx", "k"))),)
            for moment in (0, 8, 9, 10, 30):
                self.assert_false_at(range(max(9, moment), 41), ((zone, "x", moment),), plan=plan)
            # The item may be away again, it can be planted for ever.
            plan += ((12, ("put", slot, item("k", "k"))),)
            self.assert_false_at(range(20, 41), ((zone, "x", 20),), plan=plan)

    def test_items_that_are_not_good(self):
        for zone, slot in ((".", ROOT), ("land", LINK), ("land", KEYS), ("b.land", LOW_LINK), ("b.land", LOW_KEYS)):
            for first, last in ((0, 20), (5, 20), (12, 12), (12, LAST)):
                named = {slot: item("kx", "k", 3, first, last)}
                moments = [moment for moment in range(7, 41) if first <= moment <= last]
                self.assert_false_at(moments, ((zone, "x", 7),), named)

    def test_items_above_that_are_not_good(self):
        for slot in (ROOT, LINK, KEYS, LOW_LINK):
            items = {LOW_KEYS: item("kx", "k"), slot: item("k", "k", 3, 9, 20)}
            self.assert_false_at(range(9, 21), (("b.land", "x", 7),), items)

    def test_items_above_that_do_not_fit(self):
        named = {LOW_KEYS: item("kx", "k")}
        for slot, other in ((ROOT, item("k", "z")), (LINK, item("k", "z")), (KEYS, item("k", "z")),
                            (KEYS, item("z", "k")), (LOW_LINK, item("k", "z")), (LOW_LINK, item("z", "k")),
                            (ROOT, item("z", "k")), (LINK, item("z", "k"))):
            self.assert_false_at((), (("b.land", "x", 7),), {**named, slot: other})
        self.assert_false_at((), (("b.land", "x", 7),), {LOW_KEYS: item("kx", "x")})
        self.assert_false_at((), (("b.land", "x", 7),), {LOW_KEYS: item("kx", "z")})
        # What stands below the lost key does not matter.
        items = {LINK: item("kx", "k"), KEYS: item("z", "z"), LOW_LINK: item("", ""), LOW_KEYS: item("k", "y")}
        self.assert_false_at(range(7, 41), (("land", "x", 7),), items)

    def test_a_first_item_that_no_anchor_has_sealed(self):
        self.assert_false_at((), ((".", "x", 7),), {ROOT: item("kx", "x")})
        self.assert_false_at((), ((".", "x", 7),), {ROOT: item("kx", "")})
        self.assert_false_at(range(7, 41), ((".", "x", 7),), {ROOT: item("x", "kz")})

    def test_items_that_were_never_in_the_state_together(self):
        # The old link names a, the new keys are those of b, and each fits what was there at another moment.
        items = {ROOT: item("a", "k"), LINK: item("p", "a"), KEYS: item("p", "p"), LOW_LINK: item("k", "p")}
        deeds = [("put", ROOT, item("b", "k")), ("put", LINK, item("q", "b")), ("put", KEYS, item("qx", "q")),
                 ("put", ROOT, item("c", "k"))]
        plan = plan_at((5, 10, 15, 20), deeds)
        self.assert_false_at(range(15, 41), (("land", "x", 0),), items, plan)
        # The link that a has sealed never fits the keys that only q has sealed.
        self.assert_false_at((), (("land", "x", 0),), items, (plan[0], plan[2], plan[3]))
        # The link of b comes when the keys with b are away.
        turned = plan_at((5, 10, 15, 20), [deeds[0], deeds[3], deeds[2], deeds[1]])
        self.assert_false_at(range(20, 41), (("land", "x", 0),), items, turned)
        # The same, but the first keys are not good any more when the last item comes.
        for last, moments in ((19, ()), (20, (20,)), (25, range(20, 26))):
            deeds[0] = ("put", ROOT, item("b", "k", 1, 0, last))
            turned = plan_at((5, 10, 15, 20), [deeds[0], deeds[3], deeds[2], deeds[1]])
            self.assert_false_at(moments, (("land", "x", 0),), items, turned)

    def test_two_stretches(self):
        plan = plan_at((10, 20), [("put", LOW_KEYS, item("kx", "k", 3, 0, 13)),
                                  ("put", LOW_KEYS, item("kx", "k", 3, 20, 29))])
        moments = [*range(10, 14), *range(20, 30)]
        self.assert_false_at(moments, (("b.land", "x", 3),), plan=plan)
        state = state_of(REALM, life=5)
        for end, least in ((9, 0), (10, 11), (12, 13), (13, 14), (14, 14), (19, 14), (20, 21), (29, 30), (30, 30),
                           (LAST, 30)):
            self.assertEqual(clean_from(REALM, state, plan, (("b.land", "x", 3),), "b.land", "v", end), least)

    def test_one_of_several_keys(self):
        lost = (("b.land", "x", 9), ("b.land", "y", 5), ("land", "y", 3))
        self.assert_false_at(range(5, 41), lost, {LOW_KEYS: item("kxy", "k")})
        self.assert_false_at(range(9, 41), lost, {LOW_KEYS: item("kx", "k")})
        self.assert_false_at((), lost, {LOW_KEYS: item("kz", "k")})

    def test_the_set_itself_does_not_matter(self):
        for held in (item("", ""), item("abcd", "z", 1, 50, 60), item("0", "k"), item("x", "k")):
            plan = ((5, ("put", LOW_SET, item("1", "k"))), (6, ("put", LOW_SET, item("2", "k"))))
            self.assert_false_at(range(7, 41), (("b.land", "k", 7),), {LOW_SET: held}, plan)

    def test_servers_do_not_matter(self):
        items = {HOSTS: hosts(""), ("hosts", "b.land"): hosts("xyz")}
        state = state_of(REALM, items, [])
        for lost in (((".", "k", 3),), (("land", "k", 3),), (("b.land", "k", 3),)):
            for moment, right in ((2, False), (3, True), (LAST, True)):
                self.assertIs(can_be_false(REALM, state, (), lost, "b.land", "v", moment), right)
                check_history(self, REALM, state, (), lost, "b.land", "v", moment, right)

    def test_deep_names_and_twelve_deeds(self):
        realm = realm_of({".": 1, "a": 2, "b.a": 3, "c.b.a": 0, "d.c.b.a": 5}, (("d.c.b.a", "v"), ("d.c.b.a", "w")))
        place = ("set", "d.c.b.a", "v")
        named = [slot for slot in slots(realm) if slot[0] in ("keys", "link")]
        deeds = [("put", slot, item("kx", "k")) for slot in named]
        deeds += [("put", place, item(str(at), "k")) for at in range(12 - len(deeds))]
        plan = plan_at(range(3, 39, 3), deeds)
        self.assertEqual(len(plan), 12)
        for zone in [zone for zone, _ in realm[0]]:
            first = min([moment for moment, deed in plan if deed[1][1] == zone and deed[1] != place])
            self.assert_false_at(range(first, 41), ((zone, "x", 2),), (), plan, place, realm)

    def test_all_ids_that_forgers_might_take_first_are_taken(self):
        items = {KEYS: item("kx", "k"), LOW_KEYS: item("0k", "k")}
        realm = realm_of({".": 1, "land": 2, "b.land": 3})
        deeds = [("put", slot, item(digits + "k", "k"))
                 for slot in (LOW_LINK, LOW_KEYS) for digits in ("012", "345", "678")]
        deeds += [("put", LOW_SET, item(digit, "k")) for digit in "012345"]
        plan = plan_at(range(1, 13), deeds)
        self.assert_false_at(range(7, 41), (("land", "x", 7),), items, plan, realm=realm)

    def test_a_great_end(self):
        begun = time.perf_counter()
        lost = tuple([(zone, key, 9000) for zone in (".", "b.land", "land") for key in ("k", "l", "x")])
        deeds = [("put", slot, item("kl", "k", 9, at)) for slot in (KEYS, LOW_KEYS, LINK) for at in (1, 5000, 8000)]
        plan = plan_at(range(1000, 9999, 1000), deeds)
        for end in (8999, 9000, LAST):
            least = 0 if end < 9000 else end + 1
            self.assertEqual(clean_from(REALM, START, plan, lost, "b.land", "v", end), least)
        self.assertLess(time.perf_counter() - begun, 2)


def plain_false(realm, state, plan, lost, name, kind, moment):
    """Tell by 9.3 if something false can be told: by all items that can be planted, with few ids."""
    letters = ("k", "l", "m", "x", "zz")
    contents = [()] + [(key,) for key in letters] + list(itertools.combinations(letters, 2))
    named = None
    for slot in needed(realm, name, kind):
        held = [row[0] for row in spans(realm, state, plan, slot) if row[1] <= moment]
        for content, signers in itertools.product(contents, contents[1:]):
            planted = (content, 1, signers, 0, LAST)
            if can_plant(realm, state, plan, lost, slot, planted, moment):
                held.append(planted)
        held = [one for one in held if is_good(one, moment)]
        if slot == ROOT:
            held = [one for one in held if is_anchored(realm, one)]
        else:
            above = ("keys", home(realm, slot)) if slot[0] != "keys" else ("link", slot[1])
            held = [one for one in held if any(fits(slot, one, above, (keys, 1, (), 0, 0)) for keys in named)]
        named = {one[0] for one in held}
    published = {row[0][0] for row in spans(realm, state, plan, slot) if row[1] <= moment}
    return bool(named - published)


class DrawnTest(Falsity):
    def worlds(self, seeds):
        """Return small worlds with plans, lost keys and a set."""
        found = []
        for seed in range(seeds):
            draw = random.Random(seed)
            realm, state, deeds = draw_world(seed) if seed % 2 else draw_change(seed, 6)
            plan = plan_at(draw_moments(draw, len(deeds), 3), deeds)
            pairs = [(zone, key) for zone, _ in realm[0] for key in "klmx" if (zone, key) != (".", "k")]
            chosen = sorted(draw.sample(pairs, min(len(pairs), draw.randint(0, 3))))
            lost = tuple([(*pair, draw.randint(0, 15)) for pair in chosen])
            found.append((realm, state, plan, lost, *draw.choice(realm[2])))
        return found

    def test_the_plain_meaning(self):
        found = {True: 0, False: 0}
        for world in self.worlds(120):
            for moment in (0, 3, 7, 12, 20):
                told = can_be_false(*world, moment)
                self.assertEqual(told, plain_false(*world, moment), (world, moment))
                found[told] += 1
        self.assertGreater(min(found.values()), 50)

    def test_histories_and_clean_moments(self):
        found = {True: 0, False: 0}
        for world in self.worlds(300):
            told = [can_be_false(*world, moment) for moment in range(26)]
            for moment, right in enumerate(told):
                check_history(self, *world, moment, right)
                found[right] += 1
                least = max([at + 1 for at, is_false in enumerate(told[:moment + 1]) if is_false], default=0)
                self.assertEqual(clean_from(*world, moment), least, (world, moment))
        self.assertGreater(min(found.values()), 500)


if __name__ == "__main__":
    unittest.main()
