"""12.8 and 12.9: waits by which no follower is ever dark."""

import itertools
import random
import time
import unittest

from neverdark.errors import NotAllowed
from neverdark.follow import follow_judge
from neverdark.follow_tables import check_follow, follow_rows, follow_table
from neverdark.realms import after, is_deed
from neverdark.tables import check_table, is_table, least_table, run_table, table_of_rows
from neverdark.waits import rows_of
from tests.follow_small import draw_followed, draw_rhythm, root_changes
from tests.small import (all_delays, draw_bounds, draw_tables, hosts, item, order_cases, plain_hand, plainly_kept,
                         plan_at, realm_of, state_of)

ROOT = ("keys", ".")
KEYS = ("keys", "land")
LINK = ("link", "land")
HOSTS = ("hosts", "land")
SET = ("set", "land", "v")
TOP = ("set", ".", "ns")
NEVER = (0, 0, 1)
END = 5000
LAG = 2
EVERY = 7
HOLD = 5
# Keys whose signer somebody has to trust first, and keys without a signer that is still held.
TRUST = LAG + 2 * EVERY + HOLD - 1
ON = ("on", "t", "land")


def world_of(root, items=()):
    """Return a realm and a start with these keys of the root, which nothing else minds."""
    realm = realm_of({".": LAG, "land": 1}, ((".", "ns"), ("land", "v")))
    sealed = {LINK: item("k", "klm"), TOP: item("v", "klm"), ROOT: root}
    return realm, state_of(realm, {**sealed, **dict(items)})


def puts(*items):
    return tuple([("put", ROOT, held) for held in items])


class Rows(unittest.TestCase):
    def assert_rows(self, wanted, root, deeds, items=(), end=END, rhythm=(EVERY, HOLD)):
        """Check all rows but those of the order."""
        realm, state = world_of(root, items)
        told = follow_rows(realm, state, tuple(deeds), rhythm, end)
        self.assertIsInstance(told, tuple)
        rows = {(k, k - 1, 1) for k in range(1, len(deeds) + 1)} | {(0, len(deeds), -end)} | set(wanted)
        self.assertEqual(told, tuple(sorted(rows)))


class TrustRowsTest(Rows):
    def test_no_changes_of_the_root(self):
        self.assert_rows((), item("k", "k"), [ON])
        self.assert_rows((), item("klm", "m"), [ON, ("off", "t", "land")])

    def test_changes_in_which_all_keys_stay(self):
        deeds = puts(item("kl", "k"), item("klm", "k"), item("k", "k"))
        self.assert_rows((), item("k", "k"), deeds)

    def test_keys_that_come_behind_others_without_their_signer(self):
        # The start has no l; the deed 3 is sealed by l.
        deeds = puts(item("kl", "k")) + (ON,) + puts(item("kl", "l"))
        self.assert_rows({(3, 1, TRUST)}, item("k", "k"), deeds)
        for every, hold in ((1, 1), (1, 1000), (1000, 1), (1000, 1000)):
            rows = {(3, 1, LAG + 2 * every + hold - 1)}
            self.assert_rows(rows, item("k", "k", 9), deeds, rhythm=(every, hold))

    def test_keys_that_come_at_once(self):
        # Y is ended by the deed that begins X.
        self.assert_rows({(1, 1, TRUST)}, item("k", "k"), puts(item("kl", "l")))
        self.assert_rows({(2, 2, TRUST)}, item("kl", "k"), puts(item("k", "k"), item("kl", "l")))

    def test_keys_without_a_signer_that_is_held(self):
        # X is ended, and Y begun later or at once, with the life of X.
        for life in (1, 9):
            deeds = puts(item("kl", "l")) + (ON,) + puts(item("l", "l", 30))
            self.assert_rows({(3, 1, LAG + life - 1)}, item("kl", "k", life), deeds)
            self.assert_rows({(1, 1, LAG + life - 1)}, item("kl", "k", life), puts(item("l", "l", 30)))

    def test_both(self):
        # k alone and then l alone: neither trusts the other one.
        deeds = puts(item("l", "l", 30))
        self.assert_rows({(1, 1, TRUST), (1, 1, LAG + 9 - 1)}, item("k", "k", 9), deeds)

    def test_items_that_stay(self):
        # The last item stays, as X and as Y.
        self.assert_rows({(2, 1, TRUST)}, item("k", "k", 9), puts(item("kl", "k", 4), item("kl", "l")))
        deeds = puts(item("kl", "k", 4), item("l", "l"))
        self.assert_rows({(2, 1, LAG + 9 - 1), (2, 2, LAG + 4 - 1)}, item("kl", "k", 9), deeds)

    def test_a_whole_rollover(self):
        deeds = puts(item("kl", "k", 6), item("kl", "l", 3), item("l", "l", 5))
        rows = {(2, 1, TRUST), (3, 1, TRUST), (3, 1, LAG + 9 - 1), (3, 2, LAG + 6 - 1)}
        self.assert_rows(rows, item("k", "k", 9), deeds)

    def test_equal_items(self):
        # Two spans of equal items wait for themselves alone.
        deeds = puts(item("k", "k", 3), item("kl", "k"), item("kl", "k"), item("kl", "l"))
        self.assert_rows({(4, 1, TRUST), (4, 2, TRUST)}, item("k", "k", 3), deeds)

    def test_anchors(self):
        # The rows of 6.3, 3 for keys of the root are not among them; those of hosts items are.
        for anchors in (("k",), ("l",), ("x", "y")):
            realm, state = world_of(item("l", "l"))
            realm = (realm[0], anchors, realm[2])
            rows = follow_rows(realm, state, (ON,), (EVERY, HOLD), END)
            self.assertEqual(rows, ((0, 1, -END), (1, 0, 1)))
            self.assertEqual(NEVER in rows_of(realm, state, (ON,), END), anchors != ("l",))
        self.assert_rows({NEVER}, item("k", "k"), [("put", HOSTS, hosts(""))])
        self.assert_rows({NEVER}, item("k", "k"), [ON], {HOSTS: hosts("")})

    def test_the_other_rows(self):
        root = item("k", "k", 4, 0, 70)
        deeds = puts(item("kl", "k", 1, 30)) + (("put", LINK, item("k", "l", 3)), ("put", KEYS, item("kx", "k", 3)),
                                                ("put", SET, item("v", "x", 3)))
        rows = {(1, 0, 30), (0, 1, LAG + 4 - 2 - 70), (2, 1, LAG + 4 - 1), (4, 3, 1 + 1 - 1)}
        self.assert_rows(rows, root, deeds)

    def test_moments_of_the_end(self):
        # An item that stays and is late, and one that is late at the end just not any more.
        deeds = puts(item("k", "k", 1, 0, 50))
        self.assert_rows({NEVER}, item("k", "k"), deeds, end=51)
        self.assert_rows((), item("k", "k"), deeds, end=50)

    def test_deeds_that_are_not_allowed(self):
        realm, state = world_of(item("k", "k"))
        for deeds in ((("on", "s", "land"),), (ON, ON), (("off", "t", "land"), ON), (("put", ("keys", "b"), ON),),
                      puts(item("k", "k"), item("k", "k", 0)), (("put", HOSTS, item("k", "k")),), ((),)):
            for function in (follow_rows, plain_follow_table):
                with self.assertRaises(NotAllowed) as caught:
                    function(realm, state, deeds, (2, 3), END)
                self.assertEqual(caught.exception.word, "deeds")


def plain_follow_table(realm, state, deeds, rhythm, end):
    return follow_table(realm, state, deeds, ((0, 1),) * len(deeds), rhythm, end)


def trusting_all(realm):
    """Return the realm with all keys of the drawn worlds as its anchors."""
    return (realm[0], tuple("klm"), realm[2])


def plain_trust_rows(realm, state, deeds, rhythm):
    """Return the rows of 12.8 for the keys of the root, by its words."""
    items = [[dict(state[0])[ROOT], 0, None]]
    for k, deed in enumerate(deeds, start=1):
        if deed[:2] == ("put", ROOT):
            items[-1][2] = k
            items.append([deed[2], k, None])
    lag = dict(realm[0])["."]
    rows = set()
    for (first, first_begun, first_ended), (second, second_begun, second_ended) in itertools.product(items, repeat=2):
        if first[2][0] in second[0]:
            continue
        if second_ended is not None and first_begun >= second_ended:
            rows.add((first_begun, second_ended, lag + 2 * rhythm[0] + rhythm[1] - 1))
        elif first_ended is not None and second_begun >= first_ended:
            rows.add((second_begun, first_ended, lag + first[1] - 1))
        else:
            rows.add(NEVER)
    return rows


def is_bad(realm, state, deeds, rhythm, done, end):
    """Tell if the last of these moments is late, or some follower can be dark up to the end."""
    return done[-1] > end or follow_judge(realm, state, plan_at(done, deeds), rhythm, end) is not None


class DrawnRowsTest(unittest.TestCase):
    def worlds(self):
        """Return worlds with up to four deeds, a rhythm and an end."""
        found = []
        for seed in range(300):
            draw = random.Random(seed)
            count = draw.choice([1, 2, 2, 3, 3, 4])
            world = draw_followed(seed, count) if seed % 3 == 0 else root_changes(seed, count)
            found.append((*world, draw_rhythm(draw), draw.randint(5, 9 if count == 4 else 14)))
        return found

    def test_the_words_of_the_document(self):
        found = 0
        for realm, state, deeds, rhythm, end in self.worlds():
            trust = plain_trust_rows(realm, state, deeds, rhythm)
            rows = set(rows_of(trusting_all(realm), state, deeds, end)) | trust
            self.assertEqual(follow_rows(realm, state, deeds, rhythm, end), tuple(sorted(rows)))
            found += len(trust)
        self.assertGreater(found, 300)

    def test_moments_keep_the_rows_exactly_if_nobody_can_be_dark(self):
        kept = {True: 0, False: 0}
        for realm, state, deeds, rhythm, end in self.worlds():
            rows = follow_rows(realm, state, deeds, rhythm, end)
            for moments in itertools.combinations(range(1, end + 3), len(deeds)):
                light = not is_bad(realm, state, deeds, rhythm, moments, end)
                self.assertEqual(plainly_kept(rows, moments), light, (realm, state, deeds, rhythm, end, moments))
                kept[light] += 1
        self.assertGreater(min(kept.values()), 1500)


class FollowTableTest(unittest.TestCase):
    # Old keys, then both, then both sealed by the new one, then the new one alone.
    DEEDS = puts(item("kl", "k", 6), item("kl", "l", 3), item("l", "l", 5))
    BOUNDS = ((0, 2), (1, 3), (0, 4))
    # TRUST - 1 between 1 and 2; LAG + 6 - 1 between 2 and 3, which is more than LAG + 9 - 1 between 1 and 3.
    TABLE = ((2, 1, TRUST - 1), (3, 1, TRUST), (3, 2, LAG + 6 - 1))
    DONE = 1 + 2 + TRUST - 1 + 3 + LAG + 6 - 1 + 4

    def test_a_rollover(self):
        realm, state = world_of(item("k", "k", 9))
        rows = follow_rows(realm, state, self.DEEDS, (EVERY, HOLD), END)
        table = follow_table(realm, state, self.DEEDS, self.BOUNDS, (EVERY, HOLD), END)
        self.assertEqual(table, self.TABLE)
        self.assertEqual(table, table_of_rows(rows, self.BOUNDS))
        self.assertIsNone(check_follow(realm, state, self.DEEDS, self.BOUNDS, table, (EVERY, HOLD), END))

    def test_the_end_just_reached(self):
        realm, state = world_of(item("k", "k", 9))
        for end, table in ((self.DONE, self.TABLE), (self.DONE - 1, None)):
            self.assertEqual(follow_table(realm, state, self.DEEDS, self.BOUNDS, (EVERY, HOLD), end), table)
        told = check_follow(realm, state, self.DEEDS, self.BOUNDS, self.TABLE, (EVERY, HOLD), self.DONE - 1)
        self.assertEqual(run_table(self.TABLE, self.BOUNDS, told)[1][-1], self.DONE)

    def test_waits_that_are_too_short(self):
        realm, state = world_of(item("k", "k", 9))
        for at in (0, 2):
            k, j, wait = self.TABLE[at]
            table = self.TABLE[:at] + ((k, j, wait - 1),) + self.TABLE[at + 1:]
            told = check_follow(realm, state, self.DEEDS, self.BOUNDS, table, (EVERY, HOLD), END)
            done = run_table(table, self.BOUNDS, told)[1]
            self.assertIsNotNone(follow_judge(realm, state, plan_at(done, self.DEEDS), (EVERY, HOLD), END))

    def test_no_hand_is_safe(self):
        realm, state = world_of(item("k", "k", 9))
        for deeds in (puts(item("kl", "l")), puts(item("l", "l")), (("put", HOSTS, hosts("")),),
                      (("off", "s", "land"),)):
            self.assertIsNone(follow_table(realm, state, deeds, ((0, 0),), (EVERY, HOLD), END))
            self.assertEqual(check_follow(realm, state, deeds, ((0, 0),), (), (EVERY, HOLD), END), (0,))
        # For askers that trust both keys for ever there is a safe hand.
        self.assertEqual(least_table(trusting_all(realm), state, puts(item("kl", "l")), ((0, 0),), END), ())

    def test_without_changes_of_the_root(self):
        found = {True: 0, False: 0}
        for seed, (realm, state, deeds, bounds, end, _) in enumerate(order_cases(300)):
            deeds = tuple([deed for deed in deeds if deed[:2] != ("put", ROOT)])
            if not deeds or not are_right(realm, state, deeds):
                continue
            state = state_of(realm, {**dict(state[0]), ROOT: item("klm", "k", 3)}, state[1])
            bounds = bounds[:len(deeds)]
            rhythm = draw_rhythm(random.Random(seed))
            table = follow_table(realm, state, deeds, bounds, rhythm, end)
            self.assertEqual(table, least_table(trusting_all(realm), state, deeds, bounds, end))
            for other in (table or (), ()):
                told = check_follow(realm, state, deeds, bounds, other, rhythm, end)
                self.assertEqual(told, check_table(trusting_all(realm), state, deeds, bounds, other, end))
            found[table is None] += 1
        self.assertGreater(min(found.values()), 30)

    def test_six_deeds_and_a_great_end(self):
        realm, state = world_of(item("k", "k", 1000))
        deeds = puts(*[item("k" if at % 2 else "kl", "k", 1000) for at in range(6)])
        begun = time.perf_counter()
        table = follow_table(realm, state, deeds, ((0, 1000),) * 6, (1000, 1000), 10000)
        self.assertEqual(table, ())
        self.assertIsNone(check_follow(realm, state, deeds, ((0, 1000),) * 6, table, (1000, 1000), 10000))
        deeds = self.DEEDS + puts(item("lm", "l", 9), item("lm", "m", 9), item("m", "m"))
        table = follow_table(realm, state, deeds, ((0, 1000),) * 6, (500, 400), 10000)
        self.assertIsNone(check_follow(realm, state, deeds, ((0, 1000),) * 6, table, (500, 400), 10000))
        self.assertLess(time.perf_counter() - begun, 2)

    def worlds(self, seeds, most):
        """Return worlds with up to so many deeds, a rhythm, bounds and an end."""
        found = []
        for seed in range(seeds):
            draw = random.Random(seed)
            count = draw.randint(1, most)
            world = draw_followed(seed, count) if seed % 4 == 0 else root_changes(seed, count)
            end = draw.randint(4, 16 if count == 3 else 40)
            found.append((*world, draw_rhythm(draw), draw_bounds(draw, len(world[2])), end))
        return found

    def test_the_least_of_all_hands(self):
        found = {True: 0, False: 0}
        for realm, state, deeds, rhythm, bounds, end in self.worlds(200, 3):
            hand = plain_hand(bounds, end, lambda done: is_bad(realm, state, deeds, rhythm, done, end))
            table = follow_table(realm, state, deeds, bounds, rhythm, end)
            found[table is not None] += 1
            self.assertEqual(hand(()) is None, table is None, (realm, state, deeds, rhythm, bounds, end))
            if table is None:
                continue
            self.assertIs(is_table(len(deeds), table), True)
            self.assertIsNone(check_follow(realm, state, deeds, bounds, table, rhythm, end))
            for delays in all_delays(bounds):
                asked, done = run_table(table, bounds, delays)
                for at in range(len(deeds)):
                    self.assertEqual(asked[at], hand(done[:at]), (realm, state, deeds, rhythm, bounds, end, delays))
        self.assertGreater(min(found.values()), 50)

    def test_check_follow_against_all_delays(self):
        found = {True: 0, False: 0}
        for seed, (realm, state, deeds, rhythm, bounds, end) in enumerate(self.worlds(200, 3)):
            least = follow_table(realm, state, deeds, bounds, rhythm, end)
            for table in draw_tables(random.Random(seed), least or (), len(deeds)):
                bad = [delays for delays in all_delays(bounds)
                       if is_bad(realm, state, deeds, rhythm, run_table(table, bounds, delays)[1], end)]
                told = check_follow(realm, state, deeds, bounds, table, rhythm, end)
                found[not bad] += 1
                if bad:
                    self.assertIn(told, bad)
                else:
                    self.assertIsNone(told)
        self.assertGreater(min(found.values()), 100)


def are_right(realm, state, deeds):
    """Tell if the deeds are allowed one after another."""
    for deed in deeds:
        if not is_deed(realm, state, deed):
            return False
        state = after(realm, state, deed)
    return True


if __name__ == "__main__":
    unittest.main()
