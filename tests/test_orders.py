"""8.1 to 8.4: the order of the deeds that is finished first."""

import itertools
import time
import unittest

from neverdark.orders import best_order, bound, finish, is_possible
from neverdark.realms import slots
from neverdark.tables import is_row_of_deeds, least_table, run_table, table_of_rows
from neverdark.waits import begun_rows
from tests.small import chosen, hosts, item, order_cases, orders, realm_of, state_of

REALM = realm_of({".": 1, "land": 2}, ((".", "ns"), ("land", "v")))
KEYS = ("keys", "land")
HOSTS = ("hosts", "land")
SET = ("set", "land", "v")
TOP = ("set", ".", "ns")
START = state_of(REALM, {HOSTS: hosts("s", 9)})

# Deeds that do not depend on one another.
FREE = tuple([("on", server, "land") for server in "abcdef"])
# A server is replaced: there is one order only in which nobody is dark.
ON = ("on", "t", "land")
PUT = ("put", HOSTS, hosts("t", 4))
OFF = ("off", "s", "land")


class IsPossibleTest(unittest.TestCase):
    def test_pairs(self):
        for before, right in [((), orders(3)), (((1, 2),), [(1, 2, 3), (1, 3, 2), (3, 1, 2)]),
                              (((3, 1),), [(2, 3, 1), (3, 1, 2), (3, 2, 1)]), (((1, 2), (2, 3)), [(1, 2, 3)]),
                              (((1, 2), (1, 3)), [(1, 2, 3), (1, 3, 2)]), (((1, 3), (2, 3)), [(1, 2, 3), (2, 1, 3)])]:
            for order in orders(3):
                self.assertIs(is_possible(REALM, START, FREE[:3], before, order), order in right, (before, order))

    def test_deeds_that_are_allowed_in_one_order_only(self):
        # Each of the first three needs the one before it.
        deeds = (("off", "t", "land"), ("on", "t", "land"), ("on", "u", "land"))
        for order in orders(3):
            right = order.index(2) < order.index(1)
            self.assertIs(is_possible(REALM, START, deeds, (), order), right, order)
        deeds = (("on", "s", "land"), ("off", "s", "land"))
        self.assertIs(is_possible(REALM, START, deeds, (), (2, 1)), True)
        self.assertIs(is_possible(REALM, START, deeds, (), (1, 2)), False)
        self.assertIs(is_possible(REALM, START, deeds, ((1, 2),), (2, 1)), False)

    def test_an_order_without_a_finish_is_possible(self):
        self.assertIs(is_possible(REALM, START, (OFF, ON), (), (1, 2)), True)

    def test_one_deed(self):
        self.assertIs(is_possible(REALM, START, (ON,), (), (1,)), True)
        self.assertIs(is_possible(REALM, START, (("on", "s", "land"),), (), (1,)), False)


class FinishTest(unittest.TestCase):
    def test_the_example(self):
        bounds = ((1, 4), (2, 2))
        for order in orders(2):
            self.assertEqual(finish(REALM, START, FREE[:2], bounds, 100, order), 8)

    def test_the_bounds_go_with_their_deeds(self):
        # t is on, then named, and s off when the old item of life 9 at lag 1 is over: 1 + 3, 1 + 4, 9 + 5.
        deeds = (OFF, ON, PUT)
        bounds = ((0, 5), (1, 3), (2, 4))
        self.assertEqual(finish(REALM, START, deeds, bounds, 100, (2, 3, 1)), 4 + 5 + 14)
        self.assertEqual(finish(REALM, START, deeds, ((3, 5), (1, 3), (2, 4)), 100, (2, 3, 1)), 4 + 5 + 11)
        for order in orders(3):
            if order != (2, 3, 1):
                self.assertIsNone(finish(REALM, START, deeds, bounds, 100, order))

    def test_the_end(self):
        deeds = (OFF, ON, PUT)
        bounds = ((0, 5), (1, 3), (2, 4))
        self.assertEqual(finish(REALM, START, deeds, bounds, 23, (2, 3, 1)), 23)
        self.assertIsNone(finish(REALM, START, deeds, bounds, 22, (2, 3, 1)))

    def test_an_item_that_stays_and_is_late(self):
        late = ("put", TOP, item("v", "k", 1, 0, 50))
        good = ("put", TOP, item("v", "k", 1))
        bounds = ((0, 1), (0, 1))
        self.assertEqual(finish(REALM, START, (late, good), bounds, 100, (1, 2)), 4)
        self.assertIsNone(finish(REALM, START, (late, good), bounds, 100, (2, 1)))
        self.assertEqual(finish(REALM, START, (late, good), bounds, 50, (2, 1)), 4)


class BoundTest(unittest.TestCase):
    def test_deeds_without_rows(self):
        bounds = ((1, 4), (2, 2), (0, 7))
        for beginning, told in [((1,), 5 + 3 + 8), ((3, 1), 8 + 5 + 3), ((2, 1, 3), 3 + 5 + 8)]:
            self.assertEqual(bound(REALM, START, FREE[:3], bounds, 100, beginning), told)

    def test_waits_of_the_beginning(self):
        deeds = (OFF, ON, PUT)
        bounds = ((0, 5), (1, 3), (2, 4))
        self.assertEqual(bound(REALM, START, deeds, bounds, 100, (2,)), 4 + 6 + 5)
        self.assertEqual(bound(REALM, START, deeds, bounds, 100, (2, 3)), 9 + 6)
        self.assertEqual(bound(REALM, START, deeds, bounds, 100, (2, 3, 1)), 23)

    def test_no_bound(self):
        deeds = (OFF, ON, PUT)
        bounds = ((0, 5), (1, 3), (2, 4))
        for beginning in ((1,), (3,), (2, 1), (1, 2, 3)):
            self.assertIsNone(bound(REALM, START, deeds, bounds, 100, beginning))
        self.assertEqual(bound(REALM, START, deeds, bounds, 4, (2,)), 15)
        self.assertIsNone(bound(REALM, START, deeds, bounds, 3, (2,)))

    def test_an_item_that_stays_and_is_late(self):
        # A later deed may put another item, so the beginning has a bound; all deeds have no finish.
        late = ("put", TOP, item("v", "k", 1, 0, 50))
        self.assertEqual(bound(REALM, START, (late,) + FREE[:1], ((0, 1), (0, 2)), 100, (1,)), 2 + 3)
        self.assertEqual(bound(REALM, START, (late,), ((0, 1),), 100, (1,)), 2)
        self.assertIsNone(finish(REALM, START, (late,), ((0, 1),), 100, (1,)))


class BestOrderTest(unittest.TestCase):
    def test_the_example(self):
        self.assertEqual(best_order(REALM, START, FREE[:2], ((1, 4), (2, 2)), 100, ()), ((1, 2), 8))

    def test_equal_finishes(self):
        for count in range(1, 7):
            bounds = ((0, 3),) * count
            told = best_order(REALM, START, FREE[:count], bounds, 1000, ())
            self.assertEqual(told, (tuple(range(1, count + 1)), 4 * count))

    def test_pairs(self):
        bounds = ((0, 3),) * 4
        for before, order in [(((4, 1),), (2, 3, 4, 1)), (((2, 1), (4, 3)), (2, 1, 4, 3)),
                              (((3, 1), (3, 2)), (3, 1, 2, 4)), (((2, 1), (3, 2), (4, 3)), (4, 3, 2, 1)),
                              (((1, 2), (1, 3)), (1, 2, 3, 4))]:
            self.assertEqual(best_order(REALM, START, FREE[:4], bounds, 1000, before), (order, 16))

    def test_one_order_alone(self):
        bounds = ((0, 5), (1, 3), (2, 4))
        self.assertEqual(best_order(REALM, START, (OFF, ON, PUT), bounds, 100, ()), ((2, 3, 1), 23))
        self.assertEqual(best_order(REALM, START, (OFF, ON, PUT), bounds, 23, ()), ((2, 3, 1), 23))

    def test_deeds_that_are_allowed_in_one_order_only(self):
        deeds = (("off", "u", "land"), ("on", "u", "land"))
        self.assertEqual(best_order(REALM, START, deeds, ((0, 0), (0, 0)), 100, ()), ((2, 1), 2))
        self.assertIsNone(best_order(REALM, START, deeds, ((0, 0), (0, 0)), 100, ((1, 2),)))
        deeds = (("off", "u", "land"), ("on", "u", "land"), ("on", "u", "land"))
        self.assertEqual(best_order(REALM, START, deeds, ((0, 3), (0, 4), (0, 2)), 100, ()), ((2, 1, 3), 12))
        self.assertEqual(best_order(REALM, START, deeds, ((0, 3), (0, 4), (0, 2)), 100, ((3, 2),)), ((3, 1, 2), 12))
        self.assertIsNone(best_order(REALM, START, (("on", "s", "land"),), ((0, 0),), 100, ()))

    def test_no_order(self):
        bounds = ((0, 5), (1, 3), (2, 4))
        self.assertIsNone(best_order(REALM, START, (OFF, ON, PUT), bounds, 22, ()))
        for before in (((1, 2),), ((3, 2),), ((1, 3),)):
            self.assertIsNone(best_order(REALM, START, (OFF, ON, PUT), bounds, 100, before))
        self.assertIsNone(best_order(REALM, START, (OFF,), ((0, 0),), 100, ()))

    def test_one_deed(self):
        self.assertEqual(best_order(REALM, START, (ON,), ((2, 7),), 100, ()), ((1,), 8))

    def test_other_work_fills_the_waits(self):
        # While the old hosts item runs out, the other deeds are done.
        deeds = (OFF, ON, PUT) + FREE[:2]
        bounds = ((0, 0),) * 5
        self.assertEqual(best_order(REALM, START, deeds, bounds, 100, ()), ((2, 3, 4, 5, 1), 2 + 9))
        # With longer deeds 1 is finished at 11 if only 4 goes before it, but then 5 comes later.
        bounds = ((0, 0), (0, 0), (0, 0), (0, 6), (0, 7))
        self.assertEqual(best_order(REALM, START, deeds, bounds, 100, ()), ((2, 3, 4, 5, 1), 18))
        self.assertEqual(finish(REALM, START, deeds, bounds, 100, (2, 3, 4, 1, 5)), 19)

    def test_six_deeds_with_all_orders_possible(self):
        begun = time.perf_counter()
        self.assertEqual(best_order(REALM, START, FREE, ((0, 1000),) * 6, 10000, ()), ((1, 2, 3, 4, 5, 6), 6006))
        # An item that stays and is late in the end leaves no order a finish, and no beginning tells so before.
        late = FREE[:5] + (("put", TOP, item("v", "k", 1, 0, 9000)),)
        self.assertIsNone(best_order(REALM, START, late, ((0, 1000),) * 6, 10000, ()))
        self.assertLess(time.perf_counter() - begun, 20)

    def test_six_deeds_in_a_great_realm(self):
        lags = {".": 100, "a": 7, "b.a": 9, "c.b.a": 3, "d.c.b.a": 50, "e": 0}
        realm = realm_of(lags)
        state = state_of(realm, life=1000)
        chain = [("put", slot, item("k", "k", 900)) for slot in slots(realm) if slot[0] == "keys"]
        begun = time.perf_counter()
        told = best_order(realm, state, tuple(chain), ((3, 1000),) * 6, 10000, ((6, 1),))
        self.assertEqual(told, ((2, 3, 4, 5, 6, 1), 6006))
        self.assertLess(time.perf_counter() - begun, 20)


def plain_best(deeds, bounds, end, before, realm=REALM, state=START):
    """Return the best order and its finish, found by going through all orders."""
    found = []
    for order in orders(len(deeds)):
        row = chosen(deeds, order)
        if is_row_of_deeds(realm, state, row) and all(order.index(i) < order.index(j) for i, j in before):
            moment = plain_finish(realm, state, row, chosen(bounds, order), end)
            if moment is not None:
                found.append((moment, order))
    return min(found)[::-1] if found else None


def plain_finish(realm, state, row, bounds, end):
    table = least_table(realm, state, row, bounds, end)
    return None if table is None else run_table(table, bounds, [most for _, most in bounds])[1][-1]


class DrawnTest(unittest.TestCase):
    def test_going_through_all_orders(self):
        found = {True: 0, False: 0}
        for realm, state, deeds, bounds, end, before in order_cases(300):
            wanted = plain_best(deeds, bounds, end, before, realm, state)
            told = best_order(realm, state, deeds, bounds, end, before)
            self.assertEqual(told, wanted, (realm, state, deeds, bounds, end, before))
            found[told is None] += 1
            if told is not None:
                self.assertIs(is_possible(realm, state, deeds, before, told[0]), True)
                self.assertEqual(finish(realm, state, deeds, bounds, end, told[0]), told[1])
        self.assertGreater(min(found.values()), 50)

    def test_bounds_and_finishes(self):
        found = {True: 0, False: 0}
        for realm, state, deeds, bounds, end, _ in order_cases(200):
            rows = [order for order in orders(len(deeds)) if is_row_of_deeds(realm, state, chosen(deeds, order))]
            finishes = {order: finish(realm, state, deeds, bounds, end, order) for order in rows}
            for order, moment in finishes.items():
                self.assertEqual(moment, plain_finish(realm, state, chosen(deeds, order), chosen(bounds, order), end))
            for order, size in itertools.product(rows, range(1, len(deeds) + 1)):
                beginning = order[:size]
                least = bound(realm, state, deeds, bounds, end, beginning)
                self.assertEqual(least, plain_bound(realm, state, deeds, bounds, end, beginning))
                later = [moment for other, moment in finishes.items()
                         if other[:size] == beginning and moment is not None]
                found[bool(later)] += 1
                if later:
                    self.assertLessEqual(least, min(later))
        self.assertGreater(min(found.values()), 100)


def plain_bound(realm, state, deeds, bounds, end, beginning):
    """Return the bound of a beginning, by the words of 8.4."""
    own = chosen(bounds, beginning)
    table = table_of_rows(begun_rows(realm, state, chosen(deeds, beginning), end), own)
    if table is None:
        return None
    others = [number for number in range(1, len(deeds) + 1) if number not in beginning]
    return run_table(table, own, [most for _, most in own])[1][-1] + sum(1 + bounds[at - 1][1] for at in others)


if __name__ == "__main__":
    unittest.main()
