"""6.1 to 6.5: the rows that the moments of deeds have to keep."""

import itertools
import random
import unittest

from neverdark.errors import NotAllowed
from neverdark.judge import judge
from neverdark.waits import begun_rows, rows_of
from tests.small import (calm_item, draw_change, draw_world, hosts, item, plainly_kept, plan_at, realm_of,
                         state_of)

REALM = realm_of({".": 1, "land": 2, "b.land": 3}, ((".", "ns"), ("b.land", "v"), ("land", "v"), ("land", "w")))
ROOT = ("keys", ".")
LINK = ("link", "land")
KEYS = ("keys", "land")
HOSTS = ("hosts", "land")
SET = ("set", "land", "v")
LOW_LINK = ("link", "b.land")
LOW_KEYS = ("keys", "b.land")
LOW_HOSTS = ("hosts", "b.land")
LOW_SET = ("set", "b.land", "v")
SEALED = (ROOT, LINK, KEYS, SET, LOW_LINK, LOW_KEYS, LOW_SET)
# What no deed changes: the rows of [6.3], 1, for n deeds and the end 100 stand apart in each test.
END = 100
NEVER = (0, 0, 1)


def order_rows(count, end=END):
    return {(k, k - 1, 1) for k in range(1, count + 1)} | {(0, count, -end)}


class Rows(unittest.TestCase):
    def assert_rows(self, wanted, deeds, items=(), on=None, end=END, begun=None, life=1):
        """Check all rows but those of the order; `begun` are those of the beginning, if they differ."""
        state = state_of(REALM, items, on, life)
        for function, rows in ((rows_of, wanted), (begun_rows, wanted if begun is None else begun)):
            told = function(REALM, state, tuple(deeds), end)
            self.assertIsInstance(told, tuple)
            self.assertEqual(told, tuple(sorted(order_rows(len(deeds), end) | set(rows))), function)


class OrderRowsTest(Rows):
    """6.3, 1."""

    def test_one_after_another(self):
        for count in range(1, 7):
            deeds = [("on", server, "land") for server in "abcdef"[:count]]
            for end in (0, 7, 10000):
                self.assert_rows((), deeds, end=end)


class GoodRowsTest(Rows):
    """6.3, 2."""

    def test_first_of_an_item_of_the_start(self):
        for slot in SEALED:
            for first in (1, 9):
                self.assert_rows({NEVER}, [("on", "t", "land")], {slot: item("k", "k", 1, first)})
                self.assert_rows({NEVER}, [("put", slot, calm_item(slot))], {slot: item("k", "k", 1, first)})
            self.assert_rows((), [("on", "t", "land")], {slot: item("k", "k", 1, 0)})

    def test_first_of_an_item_that_is_put(self):
        for slot in SEALED:
            for first in (1, 9, 10000):
                deeds = [("on", "t", "land"), ("put", slot, item("k", "k", 1, first))]
                self.assert_rows({(2, 0, first)}, deeds)
                self.assert_rows({(2, 0, first)}, deeds + [("put", slot, calm_item(slot))])
                self.assert_rows({(1, 0, first)}, deeds[1:])
            self.assert_rows((), [("put", slot, item("k", "k", 1, 0))])

    def test_last_of_an_item_that_is_ended(self):
        for slot, lag in ((ROOT, 1), (LINK, 1), (KEYS, 2), (SET, 2), (LOW_LINK, 2), (LOW_KEYS, 3), (LOW_SET, 3)):
            for life in (1, 5):
                for last in (0, 40, END - 1):
                    held = item("k", "k", life, 0, last)
                    self.assert_rows({(0, 1, lag + life - 2 - last)}, [("put", slot, calm_item(slot))], {slot: held})
                    deeds = [("put", slot, held), ("on", "t", "land"), ("put", slot, calm_item(slot))]
                    self.assert_rows({(0, 3, lag + life - 2 - last)}, deeds)

    def test_last_of_an_item_that_stays(self):
        # The row is one of all deeds, not of the begun ones: another deed may end the item.
        for slot in SEALED:
            for last in (0, END - 1):
                held = item("k", "k", 1, 0, last)
                self.assert_rows({NEVER}, [("on", "t", "land")], {slot: held}, begun=())
                self.assert_rows({NEVER}, [("put", slot, held)], begun=())
                held = item("k", "k", 1, 7, 50)
                self.assert_rows({NEVER, (1, 0, 7)}, [("put", slot, held)], begun={(1, 0, 7)})

    def test_last_from_the_end_on(self):
        for slot in SEALED:
            for last in (END, END + 1, 10000):
                held = item("k", "k", 5, 0, last)
                self.assert_rows((), [("put", slot, calm_item(slot))], {slot: held})
                self.assert_rows((), [("put", slot, held)])
                self.assert_rows((), [("on", "t", "land")], {slot: held})

    def test_hosts_items_are_left_out(self):
        self.assert_rows((), [("put", HOSTS, hosts("s", 9))], end=10000)


class HopelessRowsTest(Rows):
    """6.3, 3."""

    def test_keys_of_the_root_without_an_anchor(self):
        bad = item("k", "x")
        self.assert_rows({NEVER}, [("on", "t", "land")], {ROOT: bad})
        self.assert_rows({NEVER}, [("put", ROOT, calm_item(ROOT))], {ROOT: bad})
        self.assert_rows({NEVER}, [("put", ROOT, bad)])
        self.assert_rows({NEVER}, [("put", ROOT, bad), ("put", ROOT, calm_item(ROOT))])
        self.assert_rows((), [("put", ROOT, item("k", "kx"))])

    def test_other_keys_need_no_anchor(self):
        deeds = [("put", LINK, item("kx", "k")), ("put", KEYS, item("kx", "x"))]
        self.assert_rows({(2, 1, 1 + 1 - 1)}, deeds)

    def test_hosts_items_without_servers(self):
        for slot in (HOSTS, LOW_HOSTS):
            self.assert_rows({NEVER}, [("on", "t", "land")], {slot: hosts("")})
            self.assert_rows({NEVER}, [("put", slot, calm_item(slot))], {slot: hosts("")})
            self.assert_rows({NEVER}, [("put", slot, hosts(""))])
            self.assert_rows({NEVER}, [("put", slot, hosts("")), ("put", slot, calm_item(slot))])

    def test_other_items_may_be_empty(self):
        self.assert_rows((), [("put", SET, item("", "k"))])


class SealRowsTest(Rows):
    """6.3, 4."""

    def test_the_upper_item_is_ended(self):
        # The old keys, of life 5, do not name the key that seals the new set.
        deeds = [("put", KEYS, item("kl", "k", 3)), ("on", "t", "land"), ("put", SET, item("v", "l", 7))]
        self.assert_rows({(3, 1, 2 + 5 - 1)}, deeds, {KEYS: item("k", "k", 5)})

    def test_the_lower_item_is_ended(self):
        # The new keys, of life 3, do not name the key that sealed the old set, of life 7.
        items = {slot: item("k", "l") for slot in (("set", "land", "w"), LOW_LINK)}
        items.update({KEYS: item("kl", "kl", 5), LINK: item("kl", "k"), SET: item("v", "k", 7)})
        deeds = [("put", SET, item("v", "l", 2)), ("put", KEYS, item("l", "l", 3))]
        self.assert_rows({(2, 1, 2 + 7 - 1)}, deeds, items)

    def test_links_wait_for_the_keys_above(self):
        deeds = [("put", ROOT, item("kl", "k", 3)), ("put", LINK, item("k", "l", 7))]
        self.assert_rows({(2, 1, 1 + 5 - 1)}, deeds, {ROOT: item("k", "k", 5)})

    def test_keys_wait_for_their_link(self):
        # The link is published by the zone above, so its lag counts.
        deeds = [("put", LOW_LINK, item("kl", "k", 3)), ("put", LOW_KEYS, item("kl", "l", 7))]
        self.assert_rows({(2, 1, 2 + 5 - 1)}, deeds, {LOW_LINK: item("k", "k", 5)})

    def test_a_link_waits_for_the_keys_below(self):
        items = {LOW_KEYS: item("k", "k", 7), LOW_LINK: item("kl", "k", 5), LOW_SET: item("v", "kl")}
        deeds = [("put", LOW_KEYS, item("kl", "kl", 3)), ("put", LOW_LINK, item("l", "k", 3))]
        self.assert_rows({(2, 1, 3 + 7 - 1)}, deeds, items)

    def test_each_pair_of_items(self):
        # Two old keys items, two new set items: each new one waits for both.
        deeds = [("put", KEYS, item("km", "k", 4)), ("put", KEYS, item("kl", "k", 3)), ("put", SET, item("v", "l")),
                 ("put", SET, item("w", "l"))]
        self.assert_rows({(3, 1, 6), (4, 1, 6), (3, 2, 5), (4, 2, 5)}, deeds, {KEYS: item("k", "k", 5)})

    def test_both_stay(self):
        odd = item("x", "x")
        for slot in SEALED[1:]:
            self.assert_rows({NEVER}, [("on", "t", "land")], {slot: odd})
            self.assert_rows({NEVER}, [("put", slot, odd)])

    def test_one_is_ended_after_the_other_has_begun(self):
        odd = item("v", "l")
        self.assert_rows({NEVER}, [("put", SET, odd), ("put", KEYS, item("kl", "k"))])
        self.assert_rows({NEVER}, [("put", SET, odd), ("put", SET, calm_item(SET))])
        self.assert_rows({NEVER}, [("put", KEYS, item("kl", "k"))], {SET: odd})
        self.assert_rows({NEVER}, [("put", SET, calm_item(SET))], {SET: odd})

    def test_an_item_between_that_does_not_fit_a_later_one(self):
        # Begun by 1 and ended by 2: the keys that do not fit come with 3.
        items = {slot: item("k", "kl") for slot in (("set", "land", "w"), LOW_LINK)}
        items.update({KEYS: item("kl", "kl", 5), LINK: item("kl", "k"), SET: item("v", "l", 7)})
        deeds = [("put", SET, item("v", "k", 4)), ("put", SET, item("v", "l")), ("put", KEYS, item("l", "l"))]
        self.assert_rows({(3, 2, 2 + 4 - 1)}, deeds, items)

    def test_slots_that_do_not_stand_next_to_one_another(self):
        # The set of one zone has nothing to do with the keys of the other.
        deeds = [("put", LOW_KEYS, item("kx", "k")), ("put", LOW_SET, item("v", "x")), ("put", SET, item("v", "k"))]
        self.assert_rows({(2, 1, 3 + 1 - 1)}, deeds)


class HostsRowsTest(Rows):
    """6.3, 5."""

    def test_a_server_that_is_turned_off_later(self):
        for slot, zone, lag in ((HOSTS, "land", 1), (LOW_HOSTS, "b.land", 2)):
            for life in (1, 5):
                deeds = [("on", "t", zone), ("put", slot, hosts("t", 3)), ("off", "s", zone)]
                self.assert_rows({(3, 2, lag + life - 1)}, deeds, {slot: hosts("s", life)})
                self.assert_rows({(3, 2, lag + life - 1)}, deeds + [("on", "s", zone)], {slot: hosts("s", life)})

    def test_a_stretch_that_is_over_before_the_item_begins(self):
        self.assert_rows((), [("on", "t", "land"), ("put", HOSTS, hosts("t"))])
        self.assert_rows((), [("on", "t", "land"), ("on", "u", "land"), ("put", HOSTS, hosts("tu"))])
        deeds = [("on", "t", "land"), ("off", "t", "land"), ("on", "t", "land"), ("put", HOSTS, hosts("t"))]
        self.assert_rows((), deeds)

    def test_a_stretch_that_is_not(self):
        self.assert_rows({NEVER}, [("put", HOSTS, hosts("t")), ("on", "t", "land")])
        self.assert_rows({NEVER}, [("put", HOSTS, hosts("t"))])
        self.assert_rows({NEVER}, [("on", "t", "b.land"), ("put", HOSTS, hosts("t"))])
        self.assert_rows({NEVER}, [("off", "s", "land")])
        self.assert_rows({NEVER}, [("off", "s", "land"), ("on", "s", "land")])
        self.assert_rows({NEVER}, [("off", "s", "land"), ("put", HOSTS, hosts("t"))])
        deeds = [("on", "t", "land"), ("off", "s", "land"), ("put", HOSTS, hosts("t"))]
        self.assert_rows({NEVER}, deeds)

    def test_a_server_that_is_off_from_the_start(self):
        pairs = [("s", "b.land"), ("t", "land")]
        self.assert_rows({NEVER}, [("on", "u", "land")], on=pairs)
        self.assert_rows({NEVER}, [("on", "s", "land")], on=pairs)
        self.assert_rows({NEVER}, [("put", HOSTS, hosts("t"))], on=pairs)
        self.assert_rows((), [("on", "s", "land"), ("put", HOSTS, hosts("s"))], {HOSTS: hosts("t")}, pairs)

    def test_several_stretches_and_items(self):
        # The item of the start waits for each time that s goes off, the third one is put when s is on again.
        deeds = [("on", "t", "land"), ("put", HOSTS, hosts("t", 2)), ("off", "s", "land"), ("on", "s", "land"),
                 ("put", HOSTS, hosts("s", 3)), ("off", "t", "land")]
        self.assert_rows({(3, 2, 1 + 5 - 1), (6, 5, 1 + 2 - 1)}, deeds, {HOSTS: hosts("s", 5)})
        deeds = deeds[:5] + [("off", "s", "land")]
        self.assert_rows({(3, 2, 5), (6, 2, 5), NEVER}, deeds, {HOSTS: hosts("s", 5)})

    def test_each_server(self):
        pairs = [("s", "b.land"), ("s", "land"), ("t", "land"), ("u", "land")]
        deeds = [("put", HOSTS, hosts("u", 2)), ("off", "t", "land"), ("off", "s", "land")]
        self.assert_rows({(2, 1, 5), (3, 1, 5)}, deeds, {HOSTS: hosts("stu", 5)}, pairs)

    def test_servers_that_no_item_names(self):
        self.assert_rows((), [("on", "t", "land"), ("off", "t", "land")])


class DeedsTest(Rows):
    def test_a_deed_that_is_not_allowed(self):
        put = ("put", SET, item("v", "k"))
        for wrong in (("on", "s", "land"), ("off", "t", "land"), ("on", "t", "."), ("put", ("set", "b", "v"), put[2]),
                      ("put", SET, item("v", "k", 0)), ("put", HOSTS, put[2]), ("lose", "t", "land"), ("on", "t"), ()):
            for deeds in ((wrong,), (put, wrong), (wrong, put)):
                for function in (rows_of, begun_rows):
                    with self.assertRaises(NotAllowed) as caught:
                        function(REALM, state_of(REALM), deeds, END)
                    self.assertEqual(caught.exception.word, "deeds")

    def test_a_deed_that_is_not_allowed_in_its_turn(self):
        for deeds in ((("on", "t", "land"), ("on", "t", "land")), (("off", "s", "land"), ("off", "s", "land")),
                      (("off", "t", "land"), ("on", "t", "land"))):
            for function in (rows_of, begun_rows):
                with self.assertRaises(NotAllowed) as caught:
                    function(REALM, state_of(REALM), deeds, END)
                self.assertEqual(caught.exception.word, "deeds")
        rows_of(REALM, state_of(REALM), (("on", "t", "land"), ("off", "t", "land"), ("on", "t", "land")), END)


class DrawnRowsTest(unittest.TestCase):
    def worlds(self):
        """Return worlds with at least one and up to four deeds, and an end."""
        found = []
        for seed in range(240):
            draw = random.Random(seed)
            count = draw.choice([1, 2, 2, 3, 3, 4])
            world = draw_world(seed, count, draw.choice([0.95, 1])) if seed % 3 == 0 else draw_change(seed, count)
            found.append((*world, draw.randint(5, 9 if count == 4 else 14)))
        return found

    def test_moments_keep_the_rows_exactly_if_nobody_can_be_dark(self):
        # 6.4, for all moments that ascend, also for such as go beyond the end.
        kept = {True: 0, False: 0}
        for realm, state, deeds, end in self.worlds():
            rows = rows_of(realm, state, deeds, end)
            for moments in itertools.combinations(range(1, end + 3), len(deeds)):
                light = judge(realm, state, plan_at(moments, deeds), end) is None and moments[-1] <= end
                self.assertEqual(plainly_kept(rows, moments), light, (realm, state, deeds, end, moments))
                kept[light] += 1
        self.assertGreater(min(kept.values()), 3000)

    def test_the_form_of_the_rows(self):
        for realm, state, deeds, end in self.worlds():
            for rows in (rows_of(realm, state, deeds, end), begun_rows(realm, state, deeds, end)):
                self.assertIsInstance(rows, tuple)
                self.assertEqual(list(rows), sorted(set(rows)))
                self.assertLessEqual(order_rows(len(deeds), end), set(rows))
                for row in rows:
                    self.assertEqual([type(part) for part in row], [int] * 3)
                    self.assertTrue(all(0 <= part <= len(deeds) for part in row[:2]), row)
                    # Never a row of an earlier deed that waits for a later one (7.7).
                    self.assertFalse(0 < row[0] < row[1], row)

    def test_begun_rows_stay_whatever_comes_behind(self):
        # 6.5: but for the row of the end, and for what an item that stays needs.
        for realm, state, deeds, end in self.worlds():
            rows = set(rows_of(realm, state, deeds, end))
            begun = set(begun_rows(realm, state, deeds, end))
            self.assertLessEqual(begun, rows)
            self.assertLessEqual(rows - begun, {NEVER})
            for count in range(1, len(deeds)):
                begun = set(begun_rows(realm, state, deeds[:count], end))
                self.assertLessEqual(begun - {(0, count, -end)}, rows)


if __name__ == "__main__":
    unittest.main()
