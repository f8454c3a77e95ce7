"""5.4 to 5.6: the least moment at which some asker can be dark, and a history that shows it."""

import random
import unittest

from neverdark.askers import Asker, run_history
from neverdark.judge import history, judge
from neverdark.realms import slots, zone_names
from neverdark.worlds import World
from tests.small import (LAST, draw_change, draw_history, draw_moments, draw_world, hosts, item, plain_judge,
                         plan_at, realm_of, state_of)

REALM = realm_of({".": 1, "land": 2, "b.land": 3}, ((".", "ns"), ("b.land", "v"), ("land", "v"), ("land", "w")))
ROOT = ("keys", ".")
LINK = ("link", "land")
KEYS = ("keys", "land")
HOSTS = ("hosts", "land")
SET = ("set", "land", "v")
LOW_LINK = ("link", "b.land")
LOW_KEYS = ("keys", "b.land")
LOW_HOSTS = ("hosts", "b.land")
LOW_SET = ("set", "b.land", "v")
GOOD = item("k", "k", 5)


class Judging(unittest.TestCase):
    def assert_history(self, realm, state, plan, end):
        """Check the history against what the judge tells; return its events."""
        told = judge(realm, state, plan, end)
        events = history(realm, state, plan, end)
        if told is None:
            self.assertIsNone(events)
            return ()
        self.assertIsInstance(events, tuple)
        asker = Asker(World(realm, state, plan))
        answers = [asker.handle(event) for event in events]
        self.assertEqual(answers[-1], ("dark", *told[1:]))
        self.assertNotIn("dark", [answer[0] for answer in answers[:-1]])
        self.assertEqual(asker.now(), told[0])
        self.assertLessEqual({event[0] for event in events}, {"go", "fill", "ask", "drop"})
        return events

    def assert_dark(self, told, state, plan=(), realm=REALM):
        """Check that this is the first darkness, whatever the end is from its moment on."""
        for end in {told[0], told[0] + 1, max(told[0], LAST)}:
            self.assertEqual(judge(realm, state, plan, end), told, end)
            self.assert_history(realm, state, plan, end)
        for end in {told[0] - 1, told[0] // 2, 0}:
            if 0 <= end < told[0]:
                self.assertIsNone(judge(realm, state, plan, end), end)
                self.assertIsNone(history(realm, state, plan, end), end)

    def assert_light(self, state, plan=(), realm=REALM):
        for end in (0, 5, 50, LAST):
            self.assertIsNone(judge(realm, state, plan, end), end)
            self.assertIsNone(history(realm, state, plan, end), end)


class NothingDarkTest(Judging):
    def test_all_is_well(self):
        self.assert_light(state_of(REALM, life=5))
        self.assert_light(state_of(REALM, life=5), ((3, ("put", SET, item("v", "k", 1))), (4, ("on", "t", "land"))))

    def test_only_a_root(self):
        realm = realm_of({".": 0})
        self.assert_light(state_of(realm), realm=realm)


class NotGoodTest(Judging):
    """Condition 1."""

    def test_an_item_of_the_start(self):
        for slot in (ROOT, LINK, KEYS, SET, LOW_LINK, LOW_KEYS, LOW_SET):
            for first in (1, 7, LAST):
                self.assert_dark((0, "early", slot), state_of(REALM, {slot: item("k", "k", 5, first)}))
            for last in (0, 7, LAST - 1):
                self.assert_dark((last + 1, "late", slot), state_of(REALM, {slot: item("k", "k", 5, 0, last)}))

    def test_an_item_that_is_put_too_early(self):
        for slot in (ROOT, LINK, KEYS, SET, LOW_LINK, LOW_KEYS, LOW_SET):
            plan = ((6, ("put", slot, item("k", "k", 5, 7))),)
            self.assert_dark((6, "early", slot), state_of(REALM, life=5), plan)
            plan = ((7, ("put", slot, item("k", "k", 5, 7))),)
            self.assert_light(state_of(REALM, life=5), plan)

    def test_an_item_that_is_put_too_late(self):
        plan = ((9, ("put", SET, item("k", "k", 5, 2, 7))),)
        self.assert_dark((9, "late", SET), state_of(REALM), plan)

    def test_an_item_whose_window_ends_just_when_it_is_over(self):
        # The item is over at 10 - 1 + 2 + 5 = 16.
        for slot, lag in ((ROOT, 1), (LINK, 1), (KEYS, 2), (SET, 2), (LOW_LINK, 2), (LOW_KEYS, 3), (LOW_SET, 3)):
            plan = ((10, ("put", slot, GOOD)),)
            stop = 10 - 1 + lag + 5
            for last in (stop, stop - 1):
                self.assert_light(state_of(REALM, {slot: item("k", "k", 5, 0, last)}), plan)
            for last in (stop - 2, stop - 3):
                state = state_of(REALM, {slot: item("k", "k", 5, 0, last)})
                self.assert_dark((last + 1, "late", slot), state, plan)

    def test_an_item_that_is_put_and_ends(self):
        # Over at 20 - 1 + 2 + 3 = 24.
        for last, moment in ((20, 21), (22, 23), (23, None), (24, None)):
            plan = plan_at((10, 20), [("put", SET, item("k", "k", 3, 10, last)), ("put", SET, GOOD)])
            if moment is None:
                self.assert_light(state_of(REALM), plan)
            else:
                self.assert_dark((moment, "late", SET), state_of(REALM), plan)

    def test_hosts_items_are_good_for_ever(self):
        self.assert_light(state_of(REALM, {HOSTS: hosts("s", 1000)}))


class AnchorTest(Judging):
    """Condition 2."""

    def test_from_the_start(self):
        for signers in ("", "x", "xyz"):
            self.assert_dark((0, "anchor", ROOT), state_of(REALM, {ROOT: item("k", signers, 5)}))

    def test_one_of_several(self):
        realm = realm_of({".": 1}, anchors=("k", "r"))
        for signers in ("k", "r", "kr", "rx"):
            self.assert_light(state_of(realm, {ROOT: item("k", signers, 5)}), realm=realm)

    def test_put(self):
        for moment in (1, 9, LAST):
            plan = ((moment, ("put", ROOT, item("k", "x", 5))),)
            self.assert_dark((moment, "anchor", ROOT), state_of(REALM), plan)

    def test_other_keys_need_no_anchor(self):
        self.assert_light(state_of(REALM, {KEYS: item("kx", "kx", 5)}))
        state = state_of(REALM, {slot: item("kx", "x", 5) if slot == KEYS else item("x", "k", 5)
                                 for slot in (LINK, KEYS)})
        self.assert_light(state)


class EmptyHostsTest(Judging):
    """Condition 3."""

    def test_from_the_start(self):
        for slot in (HOSTS, LOW_HOSTS):
            for life in (1, 4):
                self.assert_dark((0, "hosts", slot), state_of(REALM, {slot: hosts("", life)}))

    def test_put(self):
        for slot in (HOSTS, LOW_HOSTS):
            for moment in (1, 9):
                for life in (1, 4):
                    plan = ((moment, ("put", slot, hosts("", life))),)
                    self.assert_dark((moment, "hosts", slot), state_of(REALM, life=life), plan)

    def test_the_zone_above_goes_first(self):
        self.assert_dark((0, "hosts", HOSTS), state_of(REALM, {HOSTS: hosts(""), LOW_HOSTS: hosts("")}))


class LameTest(Judging):
    """Condition 4."""

    def test_off_from_the_start(self):
        self.assert_dark((0, "lame", HOSTS), state_of(REALM, on=[("s", "b.land")]))
        self.assert_dark((0, "lame", LOW_HOSTS), state_of(REALM, on=[("s", "land")]))
        self.assert_dark((0, "lame", HOSTS), state_of(REALM, on=[]))

    def test_one_of_several_servers(self):
        for content, on in (("st", "s"), ("st", "t"), ("stu", "su"), ("stu", "tu")):
            pairs = [("s", "b.land")] + [(server, "land") for server in on]
            self.assert_dark((0, "lame", HOSTS), state_of(REALM, {HOSTS: hosts(content, 3)}, pairs))
            plan = plan_at((1, 2), [("on", content[-1], "b.land"), ("put", LOW_HOSTS, hosts(content, 3))])
            if content[-1] not in on:
                self.assert_dark((0, "lame", HOSTS), state_of(REALM, {HOSTS: hosts(content, 3)}, pairs), plan)

    def test_servers_that_nobody_names_may_be_off(self):
        pairs = [("s", "land"), ("s", "b.land"), ("t", "land")]
        self.assert_light(state_of(REALM, on=pairs), ((5, ("off", "t", "land")),))

    def test_turned_off(self):
        for moment in (1, 9):
            for life in (1, 4):
                for zone, slot in (("land", HOSTS), ("b.land", LOW_HOSTS)):
                    plan = ((moment, ("off", "s", zone)),)
                    self.assert_dark((moment, "lame", slot), state_of(REALM, life=life), plan)

    def test_named_before_it_is_on(self):
        plan = plan_at((4, 5), [("put", HOSTS, hosts("st", 3)), ("on", "t", "land")])
        self.assert_dark((4, "lame", HOSTS), state_of(REALM), plan)
        plan = plan_at((4, 5), [("on", "t", "land"), ("put", HOSTS, hosts("st", 3))])
        self.assert_light(state_of(REALM), plan)

    def test_turned_off_when_the_old_item_is_just_over(self):
        # The hosts item of the start has the life 4 and its home the lag 1: it is over at 10 - 1 + 1 + 4 = 14.
        for slot, zone, stop in ((HOSTS, "land", 14), (LOW_HOSTS, "b.land", 15)):
            state = state_of(REALM, life=4)
            for moment in (stop - 3, stop - 1, stop):
                plan = plan_at((8, 10, moment), [("on", "t", zone), ("put", slot, hosts("t", 2)), ("off", "s", zone)])
                if moment == stop:
                    self.assert_light(state, plan)
                else:
                    self.assert_dark((moment, "lame", slot), state, plan)

    def test_off_for_a_moment_only(self):
        plan = plan_at((5, 6), [("off", "s", "land"), ("on", "s", "land")])
        self.assert_dark((5, "lame", HOSTS), state_of(REALM), plan)

    def test_off_before_it_is_named_and_on_again_at_once(self):
        plan = plan_at((2, 3, 5), [("on", "t", "land"), ("off", "t", "land"), ("put", HOSTS, hosts("s", 2))])
        self.assert_light(state_of(REALM, life=3), plan)

    def test_the_lag_is_the_one_of_the_home(self):
        # Over at 9 - 1 + 0 + 2 = 10, or one moment later: the lag of the zone itself does not count.
        realm = realm_of({".": 0, "a": 3})
        slot = ("hosts", "a")
        plan = plan_at((3, 9, 10), [("on", "t", "a"), ("put", slot, hosts("t")), ("off", "s", "a")])
        self.assert_light(state_of(realm, {slot: hosts("s", 2)}), plan, realm)
        self.assert_dark((10, "lame", slot), state_of(realm, {slot: hosts("s", 3)}), plan, realm)


class UnfitTest(Judging):
    """Condition 5."""

    def test_from_the_start(self):
        odd = item("x", "x", 5)
        for slot, word in ((LINK, "link"), (KEYS, "keys"), (SET, "set"), (LOW_LINK, "link"), (LOW_KEYS, "keys"),
                           (LOW_SET, "set")):
            self.assert_dark((0, word, slot), state_of(REALM, {slot: odd}))

    def test_a_new_item_beside_an_old_one(self):
        # Old keys of life 5 at lag 2 are over at 10 - 1 + 2 + 5 = 16; a set that only the new keys have sealed.
        state = state_of(REALM, life=5)
        for moment in (11, 15, 16, 17):
            plan = plan_at((10, moment), [("put", KEYS, item("kl", "k", 3)), ("put", SET, item("v", "l", 2))])
            if moment < 16:
                self.assert_dark((moment, "set", SET), state, plan)
            else:
                self.assert_light(state, plan)

    def test_keys_that_lose_a_key(self):
        # An old set of life 4 at lag 2 is over at 20 - 1 + 2 + 4 = 25.
        state = state_of(REALM, {SET: item("v", "k", 4), ("set", "land", "w"): item("v", "l"), LOW_LINK: item("k", "l"),
                                 KEYS: item("kl", "kl", 3), LINK: item("kl", "k", 7)})
        for moment in (21, 24, 25, 26):
            plan = plan_at((20, moment), [("put", SET, item("v", "l", 9)), ("put", KEYS, item("l", "l", 3))])
            if moment < 25:
                self.assert_dark((moment, "set", SET), state, plan)
            else:
                self.assert_light(state, plan)

    def test_links_and_keys_of_the_zone_above(self):
        # Old keys of the root, of life 6 at lag 1, are over at 10 - 1 + 1 + 6 = 16.
        state = state_of(REALM, life=6)
        for moment in (11, 15, 16):
            plan = plan_at((10, moment), [("put", ROOT, item("kl", "k", 1)), ("put", LINK, item("k", "l", 2))])
            if moment < 16:
                self.assert_dark((moment, "link", LINK), state, plan)
            else:
                self.assert_light(state, plan)

    def test_keys_and_links_of_a_zone(self):
        # The old link, of life 6 at lag 2, is over at 10 - 1 + 2 + 6 = 17.
        state = state_of(REALM, life=6)
        for moment in (11, 16, 17):
            plan = plan_at((10, moment), [("put", LOW_LINK, item("kl", "k", 1)), ("put", LOW_KEYS, item("kl", "l", 2))])
            if moment < 17:
                self.assert_dark((moment, "keys", LOW_KEYS), state, plan)
            else:
                self.assert_light(state, plan)

    def test_items_that_are_never_held_at_once(self):
        # Neither keys fit the other link, and they are changed with a stretch between that fits both.
        both = item("kl", "kl", 2)
        state = state_of(REALM, {SET: item("v", "kl"), ("set", "land", "w"): item("v", "kl"),
                                 LOW_LINK: item("k", "kl"), KEYS: item("k", "k", 2), LINK: item("k", "k", 2)})
        steps = [("put", LINK, item("kl", "k", 2)), ("put", KEYS, both), ("put", KEYS, item("l", "l", 2)),
                 ("put", LINK, item("l", "k", 2))]
        self.assert_light(state, plan_at((10, 13, 17, 21), steps))
        self.assert_dark((11, "keys", KEYS), state, plan_at((10, 11, 17, 21), steps[:1] + steps[2:3] + steps[3:]))


class EndTest(Judging):
    def test_deeds_after_the_end_do_not_matter(self):
        plan = ((7, ("off", "s", "land")), (9, ("put", ROOT, item("x", "x", 5))))
        for end in (0, 6):
            self.assertIsNone(judge(REALM, state_of(REALM), plan, end))
            self.assertIsNone(history(REALM, state_of(REALM), plan, end))
        for end in (7, 8, 9, LAST):
            self.assertEqual(judge(REALM, state_of(REALM), plan, end), (7, "lame", HOSTS))
        late = ((LAST, ("put", ROOT, item("x", "x", 5))),)
        self.assertIsNone(judge(REALM, state_of(REALM), late, LAST - 1))
        self.assertEqual(judge(REALM, state_of(REALM), late, LAST), (LAST, "anchor", ROOT))

    def test_the_end_0(self):
        self.assertIsNone(judge(REALM, state_of(REALM), (), 0))
        self.assertEqual(judge(REALM, state_of(REALM, {SET: item("v", "x")}), (), 0), (0, "set", SET))
        self.assertIsNone(judge(REALM, state_of(REALM, {SET: item("v", "k", 1, 0, 0)}), (), 0))
        self.assertEqual(judge(REALM, state_of(REALM, {SET: item("v", "k", 1, 0, 0)}), (), 1), (1, "late", SET))

    def test_between_deeds(self):
        plan = plan_at((5, 20), [("put", SET, item("v", "k", 3, 2, 11)), ("put", SET, GOOD)])
        self.assert_dark((12, "late", SET), state_of(REALM), plan)


class SeveralTest(Judging):
    def test_the_first_one_counts(self):
        state = state_of(REALM, {LOW_SET: item("v", "k", 3, 0, 8), LINK: item("k", "k", 3, 0, 9)})
        self.assert_dark((9, "late", LOW_SET), state)
        self.assert_dark((10, "late", LINK), state, ((3, ("put", LOW_SET, GOOD)),))

    def test_several_at_one_moment(self):
        odd = item("x", "x", 5)
        for items in ({ROOT: odd, LINK: odd}, {LINK: odd, SET: odd}, {LOW_LINK: odd, LOW_KEYS: odd, LOW_SET: odd},
                      {KEYS: item("x", "x", 5, 4), SET: item("k", "k", 5, 4)}, {ROOT: item("k", "x", 5, 3)},
                      {HOSTS: hosts(""), ROOT: odd}, {HOSTS: hosts("stx"), LOW_HOSTS: hosts("")},
                      {LOW_HOSTS: hosts("sx", 3), LINK: odd}, {slot: odd for slot in (ROOT, LINK, KEYS, SET)}):
            state = state_of(REALM, items)
            told = judge(REALM, state, (), 5)
            self.assertEqual(told[0], 0)
            self.assertIn(told[1:], plain_judge(REALM, state, (), 0)[1])
            self.assert_history(REALM, state, (), 5)

    def test_nothing_can_be_fetched_any_more_when_it_is_dark(self):
        # No server is on from 12 on, and the set is late at 12: only what was kept before shows the one or the other.
        state = state_of(REALM, {SET: item("v", "k", 4, 0, 11)}, life=4)
        self.assert_history(REALM, state, ((12, ("off", "s", "land")),), 20)


class HistoryTest(Judging):
    def test_hosts_items_that_have_to_be_kept_from_an_earlier_moment(self):
        # From 10 on the hosts item names t alone, so s is found only by who kept the old item.
        for lag in (0, 1, 3):
            for life in (1, 2, 6):
                realm = realm_of({".": lag, "land": 2, "b.land": 0})
                state = state_of(realm, life=life)
                stop = 10 - 1 + lag + life
                for moment in range(11, stop + 2):
                    plan = plan_at((8, 10, moment), [("on", "t", "land"), ("put", HOSTS, hosts("t", 3)),
                                                     ("off", "s", "land")])
                    if moment < stop:
                        self.assert_dark((moment, "lame", HOSTS), state, plan, realm)
                    else:
                        self.assert_light(state, plan, realm)

    def test_items_that_have_to_be_kept_from_an_earlier_moment(self):
        # The old link is over at 10 - 1 + lag + life; the keys that it does not name come before that.
        for lag in (0, 1, 3):
            for life in (1, 2, 6):
                for below in (0, 2):
                    realm = realm_of({".": 0, "a": lag, "b.a": below, "c.b.a": 1})
                    state = state_of(realm, life=life)
                    stop = 10 - 1 + lag + life
                    for moment in range(11, stop + 2):
                        plan = plan_at((10, moment), [("put", ("link", "b.a"), item("kl", "k", 3)),
                                                      ("put", ("keys", "b.a"), item("kl", "l", 3))])
                        if moment < stop:
                            self.assert_dark((moment, "keys", ("keys", "b.a")), state, plan, realm)
                        else:
                            self.assert_light(state, plan, realm)

    def test_an_old_answer_at_the_last_moment(self):
        # With the life 1 the old item is usable at 12 only by an answer of 9, fetched at 12.
        realm = realm_of({".": 3})
        slot = ("set", ".", "v")
        state = state_of(realm, {slot: item("v", "l"), ROOT: item("kl", "k")})
        plan = plan_at((10, 12), [("put", slot, item("v", "k")), ("put", ROOT, item("k", "k"))])
        self.assert_dark((12, "set", slot), state, plan, realm)
        plan = plan_at((10, 13), [("put", slot, item("v", "k")), ("put", ROOT, item("k", "k"))])
        self.assert_light(state, plan, realm)

    def test_each_condition_in_each_zone(self):
        for lag in (0, 2):
            for life in (1, 3):
                realm = realm_of({".": lag, "a": lag, "b.a": lag, "c.b.a": lag})
                state = state_of(realm, life=life)
                deeds = [("off", "s", zone) for zone in zone_names(realm)[1:]]
                for slot in slots(realm):
                    if slot[0] == "hosts":
                        deeds.append(("put", slot, hosts("", life)))
                    else:
                        deeds.append(("put", slot, item("x", "x", life)))
                        deeds.append(("put", slot, item("k", "k", life, 0, 9)))
                        deeds.append(("put", slot, item("k", "k", life, 50)))
                words = set()
                for deed in deeds:
                    told = judge(realm, state, ((7, deed),), 20)
                    self.assertEqual(told[0], 10 if deed[2] == item("k", "k", life, 0, 9) else 7)
                    words.add(told[1])
                    self.assert_history(realm, state, ((7, deed),), 20)
                self.assertEqual(words, {"lame", "hosts", "early", "late", "anchor", "link", "keys", "set"})


class DrawnTest(Judging):
    def worlds(self):
        """Return small worlds with plans, calm ones and others."""
        found = []
        for seed in range(400):
            draw = random.Random(seed)
            realm, state, deeds = draw_world(seed) if seed % 4 else draw_change(seed, 6)
            found.append((realm, state, plan_at(draw_moments(draw, len(deeds), draw.choice([1, 3, 8])), deeds)))
        return found

    def test_the_judge_and_the_plain_meaning(self):
        words = set()
        for realm, state, plan in self.worlds():
            told = judge(realm, state, plan, 30)
            plain = plain_judge(realm, state, plan, 30)
            self.assertEqual(told is None, plain is None, (realm, state, plan))
            if told is not None:
                self.assertEqual(told[0], plain[0], (realm, state, plan))
                self.assertIn(told[1:], plain[1], (realm, state, plan))
                words.add(told[1])
            self.assert_history(realm, state, plan, 30)
        self.assertEqual(words, {"lame", "hosts", "early", "late", "anchor", "link", "keys", "set"})

    def test_no_history_is_dark_before_the_judge_tells_it(self):
        answers = 0
        for seed, (realm, state, plan) in enumerate(self.worlds()):
            told = judge(realm, state, plan, 25)
            last = 25 if told is None else told[0] - 1
            for at in range(3):
                events = draw_history(random.Random(3 * seed + at), realm, state, plan, last)
                for answer in run_history(World(realm, state, plan), events):
                    self.assertNotEqual(answer[0], "dark", (realm, state, plan, events))
                    answers += 1
        self.assertGreater(answers, 10000)


if __name__ == "__main__":
    unittest.main()
