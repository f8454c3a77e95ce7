"""6.1, 6.6, 6.7: moments that keep rows, and rings of rows that none keep."""

import itertools
import random
import unittest

from neverdark.rings import find_ring, is_ring, keeps, least_moments
from tests.small import plainly_kept

ROWS = ((1, 0, 1), (1, 0, 5), (2, 1, 12))


def search(rows, count, most):
    """Return all moments from 0 to `most` that keep the rows, found by going through all."""
    return [moments for moments in itertools.product(range(most + 1), repeat=count) if plainly_kept(rows, moments)]


def draw_rows(draw, count, size, reach):
    """Return so many rows with indexes from 0 to `count`."""
    return [(draw.randint(0, count), draw.randint(0, count), draw.randint(-reach, reach)) for _ in range(size)]


class KeepsTest(unittest.TestCase):
    def test_just_kept_and_just_broken(self):
        for row, kept, broken in [((1, 0, 5), (5, 9), (4, 9)), ((2, 1, 3), (4, 7), (4, 6)),
                                  ((0, 2, -7), (1, 7), (1, 8)), ((1, 2, -3), (4, 7), (4, 8)),
                                  ((0, 1, 0), (0, 9), (1, 9)), ((2, 0, -2), (0, 0), (0, -3)),
                                  ((1, 2, 1), (3, 2), (2, 2))]:
            self.assertIs(keeps([row], kept), True, row)
            self.assertIs(keeps([row], broken), False, row)

    def test_a_row_of_one_index(self):
        for index in (0, 1, 2):
            for least, right in ((-1, True), (0, True), (1, False)):
                self.assertIs(keeps([(index, index, least)], (3, 4)), right)

    def test_no_rows(self):
        self.assertIs(keeps((), ()), True)
        self.assertIs(keeps([], (3, 4)), True)

    def test_no_moments(self):
        self.assertIs(keeps(((0, 0, 0),), ()), True)
        self.assertIs(keeps(((0, 0, 1),), ()), False)

    def test_all_rows_count(self):
        for moments, right in (((5, 17), True), ((5, 16), False), ((4, 17), False), ((6, 18), True)):
            for rows in (ROWS, ROWS[::-1], list(ROWS)):
                self.assertIs(keeps(rows, moments), right)
                self.assertIs(keeps(rows, list(moments)), right)


class LeastMomentsTest(unittest.TestCase):
    def test_the_example(self):
        self.assertEqual(least_moments(((2, 1, 12), (1, 0, 5), (1, 0, 1), (0, 2, -20)), 2), (5, 17))
        self.assertIsNone(least_moments(((2, 1, 12), (1, 0, 5), (1, 0, 1), (0, 2, -16)), 2))
        self.assertEqual(least_moments(((2, 1, 12), (1, 0, 5), (1, 0, 1), (0, 2, -17)), 2), (5, 17))

    def test_no_rows(self):
        for count in (0, 1, 12):
            self.assertEqual(least_moments((), count), (0,) * count)
            self.assertEqual(least_moments([], count), (0,) * count)

    def test_the_row_that_no_moments_keep(self):
        for count in (0, 1, 12):
            self.assertIsNone(least_moments(((0, 0, 1),), count))
            self.assertEqual(least_moments(((0, 0, 0), (0, 0, -1)), count), (0,) * count)

    def test_moments_are_from_0_on(self):
        self.assertEqual(least_moments(((1, 0, -5), (2, 1, -3), (1, 2, -9)), 2), (0, 0))
        self.assertIsNone(least_moments(((0, 1, 1),), 1))
        self.assertEqual(least_moments(((0, 1, 0),), 1), (0,))
        self.assertEqual(least_moments(((0, 1, -1),), 1), (0,))

    def test_rows_that_contradict_one_another(self):
        self.assertIsNone(least_moments(((1, 0, 5), (0, 1, -4)), 1))
        self.assertEqual(least_moments(((1, 0, 5), (0, 1, -5)), 1), (5,))
        self.assertIsNone(least_moments(((2, 1, 1), (1, 2, 0)), 2))
        self.assertEqual(least_moments(((2, 1, 1), (1, 2, -1)), 2), (0, 1))
        self.assertIsNone(least_moments(((3, 3, 1),), 3))

    def test_a_way_by_all_12(self):
        rows = [(k, k - 1, 20000) for k in range(1, 13)]
        wanted = tuple(range(20000, 260000, 20000))
        for order in (rows, rows[::-1], rows * 2):
            self.assertEqual(least_moments(order, 12), wanted)
            self.assertEqual(least_moments(order + [(0, 1, -20000)], 12), wanted)
            self.assertIsNone(least_moments(order + [(0, 12, -20000)], 12))
            self.assertIsNone(least_moments(order + [(1, 12, -20000)], 12))
        down = [(k - 1, k, 20000) for k in range(2, 13)]
        self.assertEqual(least_moments(down, 12), wanted[::-1][1:] + (0,))

    def test_against_a_plain_search(self):
        found = {True: 0, False: 0}
        for seed in range(600):
            draw = random.Random(seed)
            count = draw.randint(0, 3)
            rows = draw_rows(draw, count, draw.randint(0, 6), 3)
            if draw.random() < 0.5:
                rows = [row for row in rows if row[0] > 0 or row[2] < 0] * 2
            # Least moments are sums of at most three rows, so they are at most 9.
            good = search(rows, count, 9)
            told = least_moments(tuple(rows) if seed % 2 else rows, count)
            found[bool(good)] += 1
            if not good:
                self.assertIsNone(told, rows)
            else:
                self.assertEqual(told, tuple(min(column) for column in zip(*good)), rows)
                self.assertIn(told, good)
        self.assertGreater(min(found.values()), 100)

    def test_the_arguments_stay(self):
        rows = list(ROWS)
        least_moments(rows, 2)
        find_ring(rows, 2)
        is_ring(rows, [(0, 0, 0)])
        self.assertEqual(rows, list(ROWS))


class FindRingTest(unittest.TestCase):
    def assert_ring(self, rows, count):
        """Check a ring from the words of 6.7 alone."""
        ring = find_ring(rows, count)
        self.assertIsInstance(ring, list)
        self.assertNotEqual(ring, [])
        for at, row in enumerate(ring):
            self.assertEqual(row[1], ring[(at + 1) % len(ring)][0], ring)
            self.assertTrue(row in rows or (row[1:] == (0, 0) and 0 <= row[0] <= count), ring)
        self.assertGreater(sum(row[2] for row in ring), 0)
        self.assertIs(is_ring(rows, ring), True)

    def test_the_example(self):
        rows = ((2, 1, 12), (1, 0, 5), (1, 0, 1), (0, 2, -16))
        self.assert_ring(rows, 2)
        self.assertEqual(find_ring(rows, 2), [(0, 2, -16), (2, 1, 12), (1, 0, 5)])
        self.assertEqual(find_ring(rows[:3] + ((0, 2, -17),), 2), [])

    def test_a_ring_of_one_row(self):
        for count in (0, 1, 12):
            self.assert_ring(((0, 0, 1),), count)
            self.assert_ring([(count, count, 3)], count)
            self.assertEqual(find_ring((), count), [])

    def test_a_ring_that_needs_a_row_from_0_on(self):
        self.assert_ring(((0, 1, 1),), 1)
        self.assertEqual(find_ring(((0, 1, 1),), 1), [(0, 1, 1), (1, 0, 0)])
        self.assertEqual(find_ring(((0, 1, 0),), 1), [])

    def test_a_ring_of_all_12(self):
        rows = [(k, k - 1, 20000) for k in range(1, 13)]
        for order in (rows, rows[::-1]):
            self.assertEqual(find_ring(order, 12), [])
            self.assert_ring(order + [(0, 12, -20000)], 12)
            self.assert_ring(order + [(1, 12, -20000)], 12)

    def test_drawn_rows(self):
        found = {True: 0, False: 0}
        for seed in range(1500):
            draw = random.Random(seed)
            count = draw.choice([0, 1, 2, 3, 6, 12])
            reach = draw.choice([1, 3, 20000])
            rows = draw_rows(draw, count, draw.randint(0, 2 * count + 2), reach)
            if draw.random() < 0.6:
                rows = [(k, j, least if k > j else -abs(least)) for k, j, least in rows]
            none = least_moments(rows, count) is None
            found[none] += 1
            if none:
                self.assert_ring(rows, count)
            else:
                self.assertEqual(find_ring(rows, count), [])
                self.assertTrue(plainly_kept(rows, least_moments(rows, count)))
        self.assertGreater(min(found.values()), 300)


class IsRingTest(unittest.TestCase):
    ROWS = ((2, 1, 12), (1, 0, 5), (1, 0, 1), (0, 2, -16), (0, 1, 2), (3, 3, 4))
    RING = [(0, 2, -16), (2, 1, 12), (1, 0, 5)]

    def test_begun_elsewhere(self):
        for at in range(3):
            for rows in (self.ROWS, list(self.ROWS)):
                self.assertIs(is_ring(rows, self.RING[at:] + self.RING[:at]), True)

    def test_a_row_left_out(self):
        for at in range(3):
            self.assertIs(is_ring(self.ROWS, self.RING[:at] + self.RING[at + 1:]), False)

    def test_a_row_too_many(self):
        for at in range(4):
            for row in self.ROWS:
                self.assertIs(is_ring(self.ROWS, self.RING[:at] + [row] + self.RING[at:]), False, (at, row))

    def test_twice_around(self):
        self.assertIs(is_ring(self.ROWS, self.RING * 2), True)

    def test_the_wrong_way_around(self):
        self.assertIs(is_ring(self.ROWS, self.RING[::-1]), False)

    def test_a_row_of_another_list(self):
        for at in range(3):
            rows = tuple([row for row in self.ROWS if row != self.RING[at]])
            self.assertIs(is_ring(rows, self.RING), False)
        self.assertIs(is_ring(self.ROWS, [(0, 2, -15), (2, 1, 12), (1, 0, 5)]), False)
        self.assertIs(is_ring((), [(1, 1, 1)]), False)

    def test_the_sum(self):
        self.assertIs(is_ring(self.ROWS, [(0, 2, -16), (2, 1, 12), (1, 0, 1)]), False)
        for least, right in ((-6, False), (-5, False), (-4, True)):
            self.assertIs(is_ring(((1, 0, 5), (0, 1, least)), [(1, 0, 5), (0, 1, least)]), right)

    def test_one_row(self):
        self.assertIs(is_ring(self.ROWS, [(3, 3, 4)]), True)
        self.assertIs(is_ring(self.ROWS, [(1, 0, 5)]), False)
        self.assertIs(is_ring(((3, 3, 0),), [(3, 3, 0)]), False)

    def test_no_rows(self):
        self.assertIs(is_ring(self.ROWS, []), False)
        self.assertIs(is_ring((), []), False)

    def test_rows_from_0_on(self):
        self.assertIs(is_ring(self.ROWS, [(0, 1, 2), (1, 0, 0)]), True)
        self.assertIs(is_ring(self.ROWS, [(0, 1, 2), (1, 0, 0), (0, 0, 0)]), True)
        self.assertIs(is_ring(((0, 9, 3),), [(0, 9, 3), (9, 0, 0)]), True)
        # Rows like these but for one number are none of the rows.
        self.assertIs(is_ring(self.ROWS, [(0, 1, 2), (1, 0, -1)]), False)
        self.assertIs(is_ring(self.ROWS, [(0, 1, 2), (1, 1, 0), (1, 0, 0)]), False)
        self.assertIs(is_ring(((0, -1, 3),), [(0, -1, 3), (-1, 0, 0)]), False)


if __name__ == "__main__":
    unittest.main()
