"""12.5 to 12.7: the least moment at which some follower can be dark, and a history that shows it."""

import random
import time
import unittest

from neverdark.follow import follow_history, follow_judge, in_mind
from neverdark.followers import Follower, run_follower
from neverdark.worlds import World
from tests.follow_small import draw_follow_history, draw_followed, follow_worlds, plain_follow_judge, root_changes
from tests.small import LAST, draw_moments, hosts, item, plan_at, realm_of, state_of

ROOT = ("keys", ".")
LINK = ("link", "land")
KEYS = ("keys", "land")
HOSTS = ("hosts", "land")
SET = ("set", "land", "v")
TOP = ("set", ".", "ns")
RHYTHMS = ((1, 1), (1, 5), (3, 1), (3, 4), (4, 3), (1000, 1000), (1, 1000), (1000, 1))


def world_of(lag=1, items=(), life=5):
    """Return a realm with this lag of the root and a start in which all is well, whatever keys the root has."""
    realm = realm_of({".": lag, "land": 2}, ((".", "ns"), ("land", "v")))
    sealed = {LINK: item("k", "klm"), TOP: item("v", "klm")}
    return realm, state_of(realm, {**sealed, **dict(items)}, life=life)


class InMindTest(unittest.TestCase):
    def test_the_moments(self):
        for lag in (0, 1, 3):
            for every, hold in RHYTHMS:
                first, second = item("k", "k", 2), item("kl", "k", 9)
                realm, state = world_of(lag, {ROOT: first})
                plan = ((7, ("put", ROOT, second)),)
                stop = 7 - 1 + lag + 2 * every + hold
                for moment, wanted in [(0, [first]), (6, [first]), (7, [first, second]), (stop - 1, [first, second]),
                                       (stop, [second]), (stop + 1, [second]), (LAST, [second])]:
                    self.assertEqual(in_mind(realm, state, plan, (every, hold), moment), wanted, (every, hold, moment))

    def test_equal_items(self):
        held = item("k", "k")
        realm, state = world_of(1, {ROOT: held})
        plan = plan_at((3, 5), [("put", ROOT, held), ("put", ROOT, held)])
        # The spans end at 3 and 5: 3 - 1 + 1 + 2 * 2 + 3 is 10.
        for moment, count in ((0, 1), (2, 1), (3, 2), (4, 2), (5, 3), (9, 3), (10, 2), (11, 2), (12, 1), (LAST, 1)):
            self.assertEqual(in_mind(realm, state, plan, (2, 3), moment), [held] * count, moment)

    def test_the_order_and_other_slots(self):
        realm, state = world_of(0, {ROOT: item("m", "m")})
        plan = plan_at((2, 3, 4), [("put", ROOT, item("k", "k")), ("put", KEYS, item("kl", "k")),
                                   ("put", ROOT, item("a", "a"))])
        told = in_mind(realm, state, plan, (9, 9), 5)
        self.assertEqual(told, [item("m", "m"), item("k", "k"), item("a", "a")])
        told.clear()
        self.assertEqual(len(in_mind(realm, state, plan, (9, 9), 5)), 3)

    def test_what_is_not_good_is_in_mind_too(self):
        realm, state = world_of(0, {ROOT: item("k", "k", 1, 50, 60)})
        self.assertEqual(in_mind(realm, state, (), (1, 1), 3), [item("k", "k", 1, 50, 60)])


class Judging(unittest.TestCase):
    def assert_history(self, realm, state, plan, rhythm, end):
        """Check the history against what the judge tells; return its events."""
        told = follow_judge(realm, state, plan, rhythm, end)
        events = follow_history(realm, state, plan, rhythm, end)
        if told is None:
            self.assertIsNone(events)
            return ()
        self.assertIsInstance(events, tuple)
        follower = Follower(World(realm, state, plan), rhythm)
        answers = [follower.handle(event) for event in events]
        self.assertEqual(answers[-1], ("dark", *told[1:]), (realm, state, plan, rhythm))
        self.assertNotIn("dark", [answer[0] for answer in answers[:-1]], (realm, state, plan, rhythm))
        self.assertEqual(follower.now(), told[0])
        self.assertLessEqual({event[0] for event in events}, {"go", "fill", "ask", "drop", "look"})
        return events

    def assert_dark(self, told, realm, state, plan, rhythm):
        """Check that this is the first darkness, whatever the end is from its moment on."""
        for end in {told[0], told[0] + 1, max(told[0], LAST)}:
            self.assertEqual(follow_judge(realm, state, plan, rhythm, end), told, (end, rhythm))
            self.assert_history(realm, state, plan, rhythm, end)
        for end in {told[0] - 1, told[0] // 2, 0}:
            if 0 <= end < told[0]:
                self.assertIsNone(follow_judge(realm, state, plan, rhythm, end), (end, rhythm))
                self.assertIsNone(follow_history(realm, state, plan, rhythm, end), (end, rhythm))

    def assert_light(self, realm, state, plan, rhythm):
        for end in (0, 5, 50, LAST):
            self.assertIsNone(follow_judge(realm, state, plan, rhythm, end), (end, rhythm))
            self.assertIsNone(follow_history(realm, state, plan, rhythm, end), (end, rhythm))

    def assert_from(self, moment, told, realm, state, plan, rhythm):
        """Check darkness if the last deed comes before the moment; there is none from this moment on."""
        if plan[-1][0] < moment:
            self.assert_dark((plan[-1][0], *told), realm, state, plan, rhythm)
        else:
            self.assert_light(realm, state, plan, rhythm)


class SharedConditionsTest(Judging):
    """Conditions 1, 3, 4 and 5 of 5.4."""

    def test_all_is_well(self):
        for rhythm in RHYTHMS:
            self.assert_light(*world_of(), (), rhythm)
            self.assert_light(*world_of(), ((3, ("put", SET, item("v", "k"))), (4, ("on", "t", "land"))), rhythm)

    def test_not_good(self):
        for rhythm in RHYTHMS:
            for slot in (ROOT, LINK, KEYS, SET, TOP):
                signers = "k" if slot in (ROOT, KEYS, SET) else "klm"
                for first in (1, 7):
                    self.assert_dark((0, "early", slot), *world_of(1, {slot: item("k", signers, 5, first)}), (), rhythm)
                for last in (0, 7, LAST - 1):
                    world = world_of(1, {slot: item("k", signers, 5, 0, last)})
                    self.assert_dark((last + 1, "late", slot), *world, (), rhythm)
                # The item is over at 10 - 1 + its lag + 5.
                stop = 14 + (2 if slot in (KEYS, SET) else 1)
                for last in (stop, stop - 1, stop - 2):
                    world = world_of(1, {slot: item("k", signers, 5, 0, last)})
                    plan = ((10, ("put", slot, item("k", signers))),)
                    if last == stop - 2:
                        self.assert_dark((stop - 1, "late", slot), *world, plan, rhythm)
                    else:
                        self.assert_light(*world, plan, rhythm)

    def test_empty_hosts_items(self):
        for rhythm in RHYTHMS:
            self.assert_dark((0, "hosts", HOSTS), *world_of(1, {HOSTS: hosts("", 3)}), (), rhythm)
            self.assert_dark((9, "hosts", HOSTS), *world_of(), ((9, ("put", HOSTS, hosts("", 3))),), rhythm)

    def test_servers_that_are_off(self):
        for rhythm in RHYTHMS:
            self.assert_dark((9, "lame", HOSTS), *world_of(), ((9, ("off", "s", "land")),), rhythm)
            # The old hosts item is over at 10 - 1 + 1 + 5 = 15.
            for moment in (11, 14, 15):
                plan = plan_at((8, 10, moment), [("on", "t", "land"), ("put", HOSTS, hosts("t", 2)),
                                                 ("off", "s", "land")])
                self.assert_from(15, ("lame", HOSTS), *world_of(), plan, rhythm)

    def test_items_that_do_not_fit(self):
        for rhythm in RHYTHMS:
            for slot, word in ((LINK, "link"), (KEYS, "keys"), (SET, "set"), (TOP, "set")):
                self.assert_dark((0, word, slot), *world_of(1, {slot: item("x", "x", 3)}), (), rhythm)
                plan = ((9, ("put", slot, item("x", "x", 3))),)
                self.assert_dark((9, word, slot), *world_of(), plan, rhythm)
            # Old keys of life 5 at lag 2 are over at 10 - 1 + 2 + 5 = 16.
            for moment in (11, 15, 16):
                plan = plan_at((10, moment), [("put", KEYS, item("kl", "k", 3)), ("put", SET, item("v", "l", 2))])
                self.assert_from(16, ("set", SET), *world_of(), plan, rhythm)

    def test_a_link_that_does_not_fit_the_keys_of_the_root(self):
        # The old keys of the root, with k alone, are over at 10 - 1 + 1 + 5 = 15.
        for rhythm in RHYTHMS:
            for moment in (11, 14, 15):
                plan = plan_at((10, moment), [("put", ROOT, item("kl", "k")), ("put", LINK, item("k", "l"))])
                self.assert_from(15, ("link", LINK), *world_of(), plan, rhythm)

    def test_anchors_have_no_meaning(self):
        for rhythm in RHYTHMS:
            realm, state = world_of(1, {ROOT: item("l", "l", 5)})
            for anchors in (("k",), ("l",), ("x", "y")):
                self.assert_light((realm[0], anchors, realm[2]), state, (), rhythm)
            realm, state = world_of(1, {ROOT: item("kl", "k", 5)})
            for anchors in (("k",), ("l",), ("x",), ("k", "l")):
                plan = ((9, ("put", ROOT, item("m", "m"))),)
                self.assert_dark((9, "anchor", ROOT), (realm[0], anchors, realm[2]), state, plan, rhythm)


class DistrustTest(Judging):
    """Condition 2 of 12.6."""

    def test_keys_that_come_too_soon_behind_others(self):
        # Keys that l has sealed are held by nobody until those without l are not in mind any more.
        for lag in (0, 1, 3):
            for every, hold in RHYTHMS:
                stop = 10 - 1 + lag + 2 * every + hold
                for moment in (11, stop - 2, stop - 1, stop, stop + 1):
                    for life in (1, 4):
                        if moment > 10:
                            realm, state = world_of(lag, {ROOT: item("k", "k", life)})
                            plan = plan_at((10, moment), [("put", ROOT, item("kl", "k", life)),
                                                          ("put", ROOT, item("kl", "l", life))])
                            self.assert_from(stop, ("anchor", ROOT), realm, state, plan, (every, hold))

    def test_keys_without_a_signer_that_is_still_held(self):
        # Keys without k come only when those that k has sealed are held by nobody any more.
        for lag in (0, 1, 3):
            for rhythm in RHYTHMS:
                for life in (1, 4):
                    realm, state = world_of(lag, {ROOT: item("kl", "k", life)})
                    stop = 10 - 1 + lag + life
                    for moment in range(11, stop + 3):
                        plan = plan_at((10, moment), [("put", ROOT, item("kl", "l", 3)), ("put", ROOT, item("l", "l"))])
                        self.assert_from(stop, ("anchor", ROOT), realm, state, plan, rhythm)

    def test_at_once(self):
        for rhythm in RHYTHMS:
            for lag in (0, 2):
                realm, state = world_of(lag, {ROOT: item("k", "k")})
                plan = ((9, ("put", ROOT, item("kl", "l"))),)
                self.assert_dark((9, "anchor", ROOT), realm, state, plan, rhythm)
                realm, state = world_of(lag, {ROOT: item("kl", "k", 3)})
                plan = ((9, ("put", ROOT, item("l", "l"))),)
                # With the lag 0 and the life 1 the old item is over when the new one comes.
                self.assert_dark((9, "anchor", ROOT), realm, state, plan, rhythm)
        realm, state = world_of(0, {ROOT: item("kl", "k", 1)})
        self.assert_light(realm, state, ((9, ("put", ROOT, item("l", "l"))),), (1, 1))
        realm, state = world_of(1, {ROOT: item("kl", "k", 1)})
        self.assert_dark((9, "anchor", ROOT), realm, state, ((9, ("put", ROOT, item("l", "l"))),), (1, 1))

    def test_a_whole_rollover(self):
        # Old keys, then both, then both sealed by the new one, then the new one alone.
        every, hold = 3, 4
        realm, state = world_of(1, {ROOT: item("k", "k", 5)})
        deeds = [("put", ROOT, item("kl", "k", 6)), ("put", ROOT, item("kl", "l", 5)), ("put", ROOT, item("l", "l", 5))]
        wait = 1 + 2 * every + hold - 1
        for second, third, right in ((10 + wait, 10 + wait + 6, True), (9 + wait, 10 + wait + 6, False),
                                     (10 + wait, 10 + wait + 5, False), (11 + wait, 18 + wait, True)):
            plan = plan_at((10, second, third), deeds)
            told = follow_judge(realm, state, plan, (every, hold), LAST)
            self.assertEqual(told is None, right, (second, third))
            self.assert_history(realm, state, plan, (every, hold), LAST)

    def test_a_key_that_comes_back(self):
        # l is away for one item, so it has to wait again.
        deeds = [("put", ROOT, item("k", "k")), ("put", ROOT, item("kl", "k")), ("put", ROOT, item("kl", "l"))]
        for every, hold in ((1, 1), (2, 5), (5, 2)):
            realm, state = world_of(1, {ROOT: item("kl", "k")})
            stop = 12 - 1 + 1 + 2 * every + hold
            for moment in (13, stop - 1, stop):
                self.assert_from(stop, ("anchor", ROOT), realm, state, plan_at((10, 12, moment), deeds), (every, hold))

    def test_two_pairs_at_one_moment(self):
        # Keys that l has sealed come without k, before l is trusted and while k is needed.
        for rhythm in RHYTHMS:
            realm, state = world_of(2, {ROOT: item("k", "k", 5)})
            plan = plan_at((5, 7), [("put", ROOT, item("kl", "k", 5)), ("put", ROOT, item("lm", "l", 5))])
            self.assert_dark((7, "anchor", ROOT), realm, state, plan, rhythm)
            plan = plan_at((5, 7), [("put", ROOT, item("kl", "k", 5)), ("put", ROOT, item("m", "m", 5))])
            self.assert_dark((7, "anchor", ROOT), realm, state, plan, rhythm)

    def test_together_with_other_conditions(self):
        for rhythm in RHYTHMS:
            realm, state = world_of(1, {ROOT: item("k", "k", 5)})
            for held, told in [(item("kl", "l", 1, 50), ("early", ROOT)), (item("kl", "l", 1, 0, 6), ("late", ROOT)),
                               (item("l", "l", 1, 2, 8), ("late", ROOT)), (item("l", "l"), ("anchor", ROOT))]:
                self.assert_dark((9, *told), realm, state, ((9, ("put", ROOT, held)),), rhythm)
            plan = ((9, ("put", ROOT, item("x", "x"))),)
            for other in ({HOSTS: hosts("s", 1)}, {LINK: item("k", "k")}):
                self.assert_dark((9, "anchor", ROOT), *world_of(1, other), plan, rhythm)

    def test_a_realm_of_the_root_alone(self):
        realm = realm_of({".": 2})
        state = state_of(realm, {ROOT: item("k", "k"), ("set", ".", "v"): item("v", "kl")})
        self.assert_dark((5, "anchor", ROOT), realm, state, ((5, ("put", ROOT, item("l", "l"))),), (2, 2))


class EndTest(Judging):
    def test_deeds_after_the_end_do_not_matter(self):
        realm, state = world_of()
        plan = ((7, ("put", ROOT, item("m", "m"))), (9, ("off", "s", "land")))
        for end in (0, 6):
            self.assertIsNone(follow_judge(realm, state, plan, (2, 3), end))
            self.assertIsNone(follow_history(realm, state, plan, (2, 3), end))
        for end in (7, 8, 9, LAST):
            self.assertEqual(follow_judge(realm, state, plan, (2, 3), end), (7, "anchor", ROOT))

    def test_the_ends_0_and_10000(self):
        realm, state = world_of(1, {SET: item("v", "x")})
        self.assertEqual(follow_judge(realm, state, (), (2, 3), 0), (0, "set", SET))
        self.assertEqual(follow_history(realm, state, (), (2, 3), 0)[-1], ("ask", "land", "v", ()))
        realm, state = world_of()
        self.assertIsNone(follow_judge(realm, state, (), (2, 3), 0))
        plan = ((LAST, ("put", ROOT, item("m", "m"))),)
        self.assertIsNone(follow_judge(realm, state, plan, (2, 3), LAST - 1))
        for rhythm in ((1, 1), (1, 1000), (1000, 1), (7, 100)):
            begun = time.perf_counter()
            self.assert_dark((LAST, "anchor", ROOT), realm, state, plan, rhythm)
            self.assertLess(time.perf_counter() - begun, 20)

    def test_great_moments_and_twelve_deeds(self):
        deeds = [("put", ROOT, item("kl" if at % 2 else "k", "k", 1000)) for at in range(11)]
        plan = plan_at(range(800, 9999, 800), deeds + [("put", ROOT, item("kl", "l", 3))])
        for rhythm, moment in (((1, 1), 9600), ((1000, 1000), 9600)):
            realm, state = world_of(100, {ROOT: item("k", "k", 1000)})
            begun = time.perf_counter()
            self.assertEqual(follow_judge(realm, state, plan, rhythm, LAST), (moment, "anchor", ROOT))
            events = follow_history(realm, state, plan, rhythm, LAST)
            self.assertLess(time.perf_counter() - begun, 2)
            self.assertEqual(run_follower(World(realm, state, plan), rhythm, events)[-1], ("dark", "anchor", ROOT))


class DrawnTest(Judging):
    def test_the_judge_and_the_plain_meaning(self):
        words = {}
        for realm, state, plan, rhythm in follow_worlds(900):
            told = follow_judge(realm, state, plan, rhythm, 26)
            plain = plain_follow_judge(realm, state, plan, rhythm, 26)
            self.assertEqual(told is None, plain is None, (realm, state, plan, rhythm))
            word = None
            if told is not None:
                self.assertEqual(told[0], plain[0], (realm, state, plan, rhythm))
                self.assertIn(told[1:], plain[1], (realm, state, plan, rhythm))
                word = told[1]
            words[word] = words.get(word, 0) + 1
            self.assert_history(realm, state, plan, rhythm, 26)
        self.assertEqual(set(words), {None, "lame", "hosts", "early", "late", "anchor", "link", "keys", "set"})
        self.assertGreater(words["anchor"], 100)
        self.assertGreater(words[None], 100)

    def test_histories_of_many_worlds(self):
        found = {True: 0, False: 0}
        for seed in range(3000):
            draw = random.Random(seed)
            realm, state, deeds = root_changes(seed, 6) if seed % 4 else draw_followed(seed)
            plan = plan_at(draw_moments(draw, len(deeds), draw.choice([1, 4, 30, 60])), deeds)
            rhythm = (draw.choice([1, 2, 5, 13]), draw.choice([1, 2, 5, 13, 40]))
            found[len(self.assert_history(realm, state, plan, rhythm, 300)) > 0] += 1
        self.assertGreater(min(found.values()), 300)

    def test_no_history_is_dark_before_the_judge_tells_it(self):
        answers = looks = 0
        for seed, (realm, state, plan, rhythm) in enumerate(follow_worlds(500)):
            told = follow_judge(realm, state, plan, rhythm, 25)
            last = 25 if told is None else told[0] - 1
            for at in range(3):
                events = draw_follow_history(random.Random(3 * seed + at), realm, state, plan, rhythm, last)
                for answer in run_follower(World(realm, state, plan), rhythm, events):
                    self.assertNotEqual(answer[0], "dark", (realm, state, plan, rhythm, events))
                    answers += 1
                    looks += answer[0] == "trusts"
        self.assertGreater(answers, 10000)
        self.assertGreater(looks, 3000)


if __name__ == "__main__":
    unittest.main()
