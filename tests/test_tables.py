"""7.1 to 7.8: tables of waits."""

import itertools
import random
import unittest

from neverdark.errors import NotAllowed
from neverdark.judge import judge
from neverdark.tables import (MAX_DEEDS, MAX_DELAY, check_table, is_bounds, is_row_of_deeds, is_table, least_table,
                              plan_of, run_table, table_of_rows, too_early)
from neverdark.waits import rows_of
from tests.samples import replaced, wrong_kinds
from tests.small import (all_delays, draw_bounds, draw_change, draw_tables, draw_world, hosts, item, plain_hand,
                         plan_at, realm_of, state_of)

REALM = realm_of({".": 1, "land": 2}, ((".", "ns"), ("land", "v")))
KEYS = ("keys", "land")
HOSTS = ("hosts", "land")
SET = ("set", "land", "v")
PUT = ("put", SET, item("v", "k"))
OTHERS = ["", "ab", 0, 5, -1, True, False, (), ("",), ((),), (0,), ((0, 0, 0),), (("on", "t"),), (True,)]

# A server is replaced: the deed 3 waits for the old hosts item of life 9, put away by 2, to be over.
CHANGE = (("on", "t", "land"), ("put", HOSTS, hosts("t", 4)), ("off", "s", "land"))
START = state_of(REALM, {HOSTS: hosts("s", 9)})


class Checks(unittest.TestCase):
    def assert_false(self, told, *what):
        self.assertIs(told, False, what)

    def assert_true(self, told, *what):
        self.assertIs(told, True, what)

    def assert_not_allowed(self, word, function, *arguments):
        with self.assertRaises(NotAllowed) as caught:
            function(*arguments)
        self.assertEqual(caught.exception.word, word)


class IsRowOfDeedsTest(Checks):
    def test_rows(self):
        for count in range(1, 7):
            self.assert_true(is_row_of_deeds(REALM, START, (PUT,) * count))
        self.assert_true(is_row_of_deeds(REALM, START, CHANGE))

    def test_numbers_of_deeds(self):
        self.assertEqual(MAX_DEEDS, 6)
        self.assert_false(is_row_of_deeds(REALM, START, ()))
        self.assert_false(is_row_of_deeds(REALM, START, (PUT,) * 7))

    def test_deeds_that_are_not_allowed_in_their_turn(self):
        on, _, off = CHANGE
        for deeds, right in [((on, on), False), ((off, off), False), ((on, ("off", "t", "land"), on), True),
                             ((("off", "t", "land"), on), False), ((off, ("on", "s", "land")), True),
                             ((("on", "s", "land"), off), False), ((on, ("on", "t", ".")), False)]:
            self.assertIs(is_row_of_deeds(REALM, START, deeds), right, deeds)

    def test_other_values(self):
        for value in OTHERS + wrong_kinds(CHANGE) + [list(CHANGE)]:
            self.assert_false(is_row_of_deeds(REALM, START, value), value)
        for value in replaced(CHANGE, [True, "", 7, (), ("land",), ("put", 5, 5), ("on", True, "land")]):
            self.assertIn(is_row_of_deeds(REALM, START, value), (True, False))
        spoilt = ("put", SET, item("v", "k", 0))
        for at in range(3):
            self.assert_false(is_row_of_deeds(REALM, START, CHANGE[:at] + (spoilt,) + CHANGE[at + 1:]))


class IsBoundsTest(Checks):
    def test_limits(self):
        self.assertEqual(MAX_DELAY, 1000)
        for pair, right in [((0, 0), True), ((0, 1000), True), ((1000, 1000), True), ((3, 3), True), ((4, 3), False),
                            ((-1, 3), False), ((0, 1001), False), ((1001, 1001), False), ((-1, -1), False),
                            ((1, 0), False)]:
            for at in range(3):
                value = ((0, 5),) * at + (pair,) + ((1, 2),) * (2 - at)
                self.assertIs(is_bounds(3, value), right, value)

    def test_numbers_of_pairs(self):
        for count in range(1, 8):
            for size in range(8):
                self.assertIs(is_bounds(count, ((0, 5),) * size), count == size)

    def test_other_values(self):
        good = ((0, 5), (1, 2))
        self.assert_true(is_bounds(2, good))
        for value in OTHERS[:3] + OTHERS[5:] + wrong_kinds(good) + [list(good)]:
            self.assert_false(is_bounds(2, value), value)
        for value in [((0,), (1, 2)), ((0, 5, 5), (1, 2)), ((False, 5), (1, 2)), ((0, True), (1, 2)),
                      ((0, "5"), (1, 2)), ((0, 5), ()), ("05", (1, 2)), ((0, 5), (1, (2,)))]:
            self.assert_false(is_bounds(2, value), value)


class IsTableTest(Checks):
    def test_rows(self):
        for row, right in [((1, 0, 1), True), ((3, 0, 1), True), ((3, 2, 1), True), ((3, 3, 1), False),
                           ((2, 3, 1), False), ((0, 0, 1), False), ((4, 0, 1), False), ((1, -1, 1), False),
                           ((-1, 0, 1), False), ((2, 1, 0), False), ((2, 1, 10000), True), ((2, 1, 10001), False),
                           ((2, 1, -1), False)]:
            self.assertIs(is_table(3, (row,)), right, row)

    def test_all_rows(self):
        table = tuple([(k, j, 7) for k in range(1, 7) for j in range(k)])
        self.assert_true(is_table(6, table))
        self.assert_false(is_table(5, table))
        for at in range(len(table) - 1):
            self.assert_true(is_table(6, table[:at] + table[at + 1:]))
            self.assert_false(is_table(6, table[:at] + (table[at + 1], table[at]) + table[at + 2:]))
            self.assert_false(is_table(6, table[:at] + (table[at],) + table[at:]))
            for wait in (6, 8):
                k, j, _ = table[at]
                self.assert_false(is_table(6, table[:at] + ((k, j, wait),) + table[at:]))
                self.assert_false(is_table(6, table[:at + 1] + ((k, j, wait),) + table[at + 1:]))

    def test_no_rows(self):
        for count in range(1, 7):
            self.assert_true(is_table(count, ()))

    def test_other_values(self):
        good = ((1, 0, 3), (2, 1, 4))
        self.assert_true(is_table(2, good))
        for value in [value for value in OTHERS if value != ()] + wrong_kinds(good) + [list(good)]:
            self.assert_false(is_table(2, value), value)
        for value in [((1, 0),), ((1, 0, 3, 4),), ((True, 0, 3),), ((1, False, 3),), ((1, 0, True),), ("103",),
                      ((1, 0, "3"),), ((1, 0, 3), 5), ((1, 0, 3), ())]:
            self.assert_false(is_table(2, value), value)


class RunTest(Checks):
    def test_no_waits(self):
        self.assertEqual(run_table((), ((0, 5), (0, 5), (0, 5)), (0, 0, 0)), ((1, 2, 3), (1, 2, 3)))
        self.assertEqual(run_table((), ((0, 5), (0, 5), (0, 5)), (5, 2, 3)), ((1, 7, 10), (6, 9, 13)))

    def test_rows_to_the_beginning_and_to_earlier_deeds(self):
        bounds = ((0, 9),) * 3
        table = ((1, 0, 3), (2, 0, 6), (2, 1, 2), (3, 1, 9), (3, 2, 4))
        self.assertEqual(run_table(table, bounds, (0, 0, 0)), ((3, 6, 12), (3, 6, 12)))
        self.assertEqual(run_table(table, bounds, (5, 0, 0)), ((3, 10, 17), (8, 10, 17)))
        self.assertEqual(run_table(table, bounds, (1, 9, 2)), ((3, 6, 19), (4, 15, 21)))
        self.assertEqual(run_table(table, bounds, (3, 4, 0)), ((3, 8, 16), (6, 12, 16)))

    def test_waits_that_say_nothing(self):
        self.assertEqual(run_table(((1, 0, 1), (2, 1, 1)), ((2, 2), (0, 0)), (2, 0)), ((1, 4), (3, 4)))

    def test_moments_beyond_the_greatest_one(self):
        table = ((1, 0, 10000), (2, 1, 10000))
        self.assertEqual(run_table(table, ((0, 1000),) * 2, (1000, 1000)), ((10000, 21000), (11000, 22000)))

    def test_delays_out_of_their_bounds(self):
        bounds = ((1, 4), (2, 2), (0, 0))
        for delays in ((1, 2, 0), (4, 2, 0)):
            run_table((), bounds, delays)
        for delays in ((0, 2, 0), (5, 2, 0), (1, 1, 0), (1, 3, 0), (1, 2, -1), (1, 2, 1), (1, 2), (1, 2, 0, 0), ()):
            self.assert_not_allowed("delays", run_table, (), bounds, delays)

    def test_kinds(self):
        asked, done = run_table((), ((0, 0),), (0,))
        self.assertIsInstance(asked, tuple)
        self.assertIsInstance(done, tuple)


class PlanOfTest(Checks):
    def test_plans(self):
        self.assertEqual(plan_of(CHANGE, (2, 5, 9)), ((2, CHANGE[0]), (5, CHANGE[1]), (9, CHANGE[2])))
        self.assertEqual(plan_of((PUT,), (10000,)), ((10000, PUT),))


class CheckTableTest(Checks):
    # The deed 3 is done at 9 - 1 + 1 moments after the deed 2 at the earliest, as the row (3, 2, 9) says.
    def check(self, table, bounds, end):
        """Return what check_table tells, checked by the plain meaning of delays that break a table."""
        told = check_table(REALM, START, CHANGE, bounds, table, end)
        if told is not None:
            done = run_table(table, bounds, told)[1]
            self.assertTrue(done[-1] > end or judge(REALM, START, plan_of(CHANGE, done), end) is not None)
        return told

    def test_a_wait_just_long_enough(self):
        for least in (0, 2):
            bounds = ((0, 3), (1, 4), (least, 5))
            self.assertIsNone(self.check(((3, 2, 9 - least),), bounds, 100))
            self.assertIsNotNone(self.check(((3, 2, 8 - least),), bounds, 100))
        self.assertIsNotNone(self.check((), bounds, 100))

    def test_delays_of_which_only_some_break_it(self):
        # Waiting for the deed 1 instead is right only if the deed 2 is done at once.
        bounds = ((0, 0), (0, 3), (0, 3))
        self.assertEqual(self.check(((3, 1, 10),), bounds, 100)[1:], (3, 0))
        self.assertIsNone(self.check(((3, 1, 13),), bounds, 100))
        self.assertEqual(self.check(((3, 1, 12),), bounds, 100)[1:], (3, 0))

    def test_a_late_run(self):
        # 1 + 3, 1 + 4, 9 + 5: the last deed is done at 23 at the latest.
        bounds = ((0, 3), (1, 4), (0, 5))
        self.assertIsNone(self.check(((3, 2, 9),), bounds, 23))
        self.assertEqual(self.check(((3, 2, 9),), bounds, 22), (3, 4, 5))

    def test_equal_bounds(self):
        bounds = ((2, 2), (3, 3), (5, 5))
        self.assertIsNone(self.check(((3, 2, 4),), bounds, 100))
        self.assertEqual(self.check(((3, 2, 3),), bounds, 100), (2, 3, 5))

    def test_waits_far_beyond_the_end(self):
        self.assertIsNotNone(self.check(((1, 0, 10000), (2, 1, 10000)), ((0, 1000),) * 3, 10000))

    def test_darkness_between_and_behind_the_deeds(self):
        late = (("put", SET, item("v", "k", 1, 0, 50)),)
        for end, right in ((50, True), (51, False)):
            told = check_table(REALM, START, late, ((0, 0),), (), end)
            self.assertEqual(told is None, right)
        held = state_of(REALM, {SET: item("v", "k", 3, 0, 9)})
        # The item of life 3 at lag 2 is over at y - 1 + 2 + 3, and has to be so at 10.
        for delay, right in ((0, True), (5, True), (6, False)):
            told = check_table(REALM, held, (PUT,), ((0, delay),), (), 100)
            self.assertEqual(told, None if right else (delay,))

    def test_against_all_delays(self):
        found = {True: 0, False: 0}
        for seed in range(150):
            draw = random.Random(seed)
            realm, state, deeds = draw_change(seed, 3)
            bounds = draw_bounds(draw, len(deeds))
            end = draw.randint(6, 30)
            least = least_table(realm, state, deeds, bounds, end)
            for table in draw_tables(draw, least or (), len(deeds)):
                bad = [delays for delays in all_delays(bounds)
                       if is_bad(realm, state, deeds, run_table(table, bounds, delays)[1], end)]
                told = check_table(realm, state, deeds, bounds, table, end)
                found[not bad] += 1
                if bad:
                    self.assertIn(told, bad)
                else:
                    self.assertIsNone(told)
        self.assertGreater(min(found.values()), 100)


def is_bad(realm, state, deeds, done, end):
    """Tell if the last of these moments is late, or somebody can be dark up to the end."""
    return done[-1] > end or judge(realm, state, plan_at(done, deeds), end) is not None


class TableOfRowsTest(Checks):
    """7.7, clause by clause."""

    BOUNDS = ((0, 2), (1, 3), (2, 4))

    def table(self, *rows, bounds=BOUNDS):
        """Return the table of the rows, given as a tuple and as a list."""
        told = table_of_rows(tuple(rows), bounds)
        kept = list(rows)
        self.assertEqual(table_of_rows(kept, bounds), told)
        self.assertEqual(kept, list(rows))
        return told

    def test_no_rows(self):
        self.assertEqual(self.table(), ())

    def test_a_wait(self):
        self.assertEqual(self.table((3, 1, 12)), ((3, 1, 10),))
        self.assertEqual(self.table((2, 0, 12)), ((2, 0, 11),))
        self.assertEqual(self.table((1, 0, 12)), ((1, 0, 12),))

    def test_the_greatest_of_several(self):
        for rows in itertools.permutations([(3, 1, 12), (3, 1, 7), (3, 1, -5), (3, 1, 13), (3, 0, 99)]):
            self.assertEqual(self.table(*rows), ((3, 0, 97), (3, 1, 11)))

    def test_waits_of_0_and_1(self):
        self.assertEqual(self.table((3, 1, 3)), ((3, 1, 1),))
        self.assertEqual(self.table((3, 1, 2)), ())
        self.assertEqual(self.table((3, 1, -9)), ())
        self.assertEqual(self.table((3, 0, 3), (2, 0, 2)), ((2, 0, 1), (3, 0, 1)))

    def test_waits_of_1_and_2_for_the_deed_before(self):
        self.assertEqual(self.table((3, 2, 4)), ((3, 2, 2),))
        self.assertEqual(self.table((3, 2, 3)), ())
        self.assertEqual(self.table((1, 0, 2)), ((1, 0, 2),))
        self.assertEqual(self.table((1, 0, 1)), ())

    def test_ascending(self):
        rows = [(k, j, 20) for k in (3, 2, 1) for j in range(k)]
        told = self.table(*rows)
        self.assertEqual(told, ((1, 0, 20), (2, 0, 19), (2, 1, 19), (3, 0, 18), (3, 1, 18), (3, 2, 18)))
        self.assertIs(is_table(3, told), True)

    def test_a_row_of_one_deed(self):
        for k in range(4):
            for least, right in ((-3, True), (0, True), (1, False), (7, False)):
                self.assertEqual(self.table((k, k, least)), () if right else None)

    def test_a_row_that_waits_for_a_later_deed(self):
        self.assertIsNone(self.table((1, 2, 0)))
        self.assertIsNone(self.table((1, 3, -1)))
        self.assertIsNone(self.table((2, 3, 5)))
        self.assertEqual(self.table((1, 0, 4), bounds=((0, 0),)), ((1, 0, 4),))

    def test_a_row_for_the_beginning(self):
        # Without waits the deeds are done at 1 + 2, 1 + 3 and 1 + 4 moments one after another: 3, 7, 12.
        for j, moment in ((1, 3), (2, 7), (3, 12)):
            self.assertEqual(self.table((0, j, -moment)), ())
            self.assertIsNone(self.table((0, j, 1 - moment)))
            self.assertEqual(self.table((0, j, -moment - 1)), ())
        # With a wait the deed 3 is done at 3 + 10 + 4 = 17.
        self.assertEqual(self.table((3, 1, 12), (0, 3, -17)), ((3, 1, 10),))
        self.assertIsNone(self.table((3, 1, 12), (0, 3, -16)))
        self.assertIsNone(self.table((3, 1, 12), (0, 3, -17), (0, 2, -6)))
        self.assertEqual(self.table((0, 0, 0)), ())

    def test_the_least_delays_alone_may_keep_a_row(self):
        self.assertIsNone(self.table((0, 1, 0)))
        self.assertIsNone(self.table((0, 1, -1)))
        self.assertEqual(self.table((0, 1, -1), bounds=((0, 0),)), ())


class LeastTableTest(Checks):
    def test_the_change_of_a_server(self):
        for least in (0, 2, 8):
            bounds = ((0, 3), (1, 4), (least, 10))
            table = () if least == 8 else ((3, 2, 9 - least),)
            self.assertEqual(least_table(REALM, START, CHANGE, bounds, 1000), table)
            self.assertEqual(table_of_rows(rows_of(REALM, START, CHANGE, 1000), bounds), table)

    def test_the_end_just_reached(self):
        bounds = ((0, 3), (1, 4), (0, 5))
        self.assertEqual(least_table(REALM, START, CHANGE, bounds, 23), ((3, 2, 9),))
        self.assertIsNone(least_table(REALM, START, CHANGE, bounds, 22))

    def test_no_hand_is_safe(self):
        for deeds in ((("off", "s", "land"),), (("put", SET, item("v", "l")),), (("put", HOSTS, hosts("")),)):
            self.assertIsNone(least_table(REALM, START, deeds, ((0, 0),), 10000))

    def test_six_deeds_and_a_great_end(self):
        deeds = tuple([("put", SET, item("v", "k", 1000, 100 * at)) for at in range(1, 7)])
        bounds = ((0, 1000),) * 6
        table = least_table(REALM, START, deeds, bounds, 10000)
        self.assertEqual(table, tuple([(at, 0, 100 * at) for at in range(1, 7)]))
        self.assertIsNone(check_table(REALM, START, deeds, bounds, table, 10000))

    def cases(self, seeds, most):
        """Return worlds with up to so many deeds, bounds and an end."""
        found = []
        for seed in range(seeds):
            draw = random.Random(seed)
            count = draw.randint(1, most)
            world = draw_world(seed, count, 1) if seed % 4 == 0 else draw_change(seed, count)
            found.append((*world, draw_bounds(draw, len(world[2])), draw.randint(4, 14 if count == 3 else 40)))
        return found

    def test_the_least_of_all_hands(self):
        found = {True: 0, False: 0}
        for realm, state, deeds, bounds, end in self.cases(200, 3):
            hand = plain_hand(bounds, end, lambda done: is_bad(realm, state, deeds, done, end))
            table = least_table(realm, state, deeds, bounds, end)
            found[table is not None] += 1
            self.assertEqual(hand(()) is None, table is None, (realm, state, deeds, bounds, end))
            if table is None:
                continue
            self.assertIs(is_table(len(deeds), table), True)
            self.assertIsNone(check_table(realm, state, deeds, bounds, table, end))
            for delays in all_delays(bounds):
                asked, done = run_table(table, bounds, delays)
                for at in range(len(deeds)):
                    self.assertEqual(asked[at], hand(done[:at]), (realm, state, deeds, bounds, end, delays))
        self.assertGreater(min(found.values()), 50)

    def test_each_wait_is_needed(self):
        lessened = 0
        for realm, state, deeds, bounds, end in self.cases(500, 4):
            table = least_table(realm, state, deeds, bounds, end) or ()
            for at, (k, j, wait) in enumerate(table):
                other = table[:at] + (((k, j, wait - 1),) if wait > 1 else ()) + table[at + 1:]
                if any(run_table(table, bounds, delays) != run_table(other, bounds, delays)
                       for delays in all_delays(bounds)):
                    self.assertIsNotNone(check_table(realm, state, deeds, bounds, other, end))
                    lessened += 1
        self.assertGreater(lessened, 30)


class TooEarlyTest(Checks):
    BOUNDS = ((0, 3), (1, 4), (2, 5))

    def early(self, done, moment, end=1000):
        return too_early(REALM, START, CHANGE, self.BOUNDS, end, done, moment)

    def test_the_last_deed(self):
        # The least table is ((3, 2, 7),).
        for moment in (6, 11):
            self.assertEqual(self.early((2, 5), moment), moment + 2)
        for moment in (12, 13, 10000):
            self.assertIsNone(self.early((2, 5), moment))

    def test_deeds_that_have_not_to_wait(self):
        self.assertIsNone(self.early((), 1))
        self.assertIsNone(self.early((2,), 3))

    def test_the_first_deed(self):
        deeds = (("put", SET, item("v", "k", 1, 9)),)
        for moment, told in ((1, 3), (6, 8), (7, None), (8, None)):
            self.assertEqual(too_early(REALM, START, deeds, ((2, 3),), 1000, (), moment), told)

    def test_waits_for_several_deeds(self):
        deeds = (PUT, ("put", SET, item("v", "k", 1, 9)), ("put", SET, item("v", "k", 1, 20)))
        bounds = ((0, 0), (1, 1), (2, 9))
        for done, moment, told in [((4,), 7, 8), ((4,), 8, None), ((4, 9), 17, 19), ((4, 9), 18, None),
                                   ((4, 19), 20, None)]:
            self.assertEqual(too_early(REALM, START, deeds, bounds, 1000, done, moment), told)

    def test_no_least_table(self):
        self.assertIsNone(self.early((2, 5), 6, 10))
        self.assertIsNone(too_early(REALM, START, (("off", "s", "land"),), ((0, 0),), 1000, (), 1))

    def test_a_moment_beyond_the_end(self):
        # The runs of the least table end at 22 at the latest, so 22 is an end with one.
        end = run_table(((3, 2, 7),), self.BOUNDS, (3, 4, 5))[1][-1]
        self.assertEqual(self.early((2, 20), 26, end), 28)
        self.assertGreater(28, end)

    def test_the_moment_that_is_told_is_dark(self):
        # Whatever comes later: also if no later deed is done at all.
        told = 0
        for seed in range(250):
            draw = random.Random(seed)
            realm, state, deeds = draw_change(seed, 4)
            bounds = draw_bounds(draw, len(deeds))
            end = 60
            table = least_table(realm, state, deeds, bounds, end)
            if table is None:
                continue
            for at in range(len(deeds)):
                done = run_table(table, bounds, draw.choice(all_delays(bounds)))[1][:at]
                wanted = ([0, *done][-1] + 1, run_table(table, bounds, done_delays(table, bounds, done))[0][at])
                for moment in range(wanted[0], wanted[1] + 3):
                    dark = too_early(realm, state, deeds, bounds, end, done, moment)
                    self.assertEqual(dark, None if moment >= wanted[1] else moment + bounds[at][0])
                    if dark is not None:
                        plan = plan_at((*done, dark), deeds)
                        self.assertEqual(judge(realm, state, plan, end)[0], dark)
                        told += 1
        self.assertGreater(told, 50)


def done_delays(table, bounds, done):
    """Return delays with which the run of the table has these moments of the first deeds."""
    return next(delays for delays in all_delays(bounds) if run_table(table, bounds, delays)[1][:len(done)] == done)


if __name__ == "__main__":
    unittest.main()
