"""What an interval is, x upon y, and which of two is the wider."""

import unittest

from gutfrets.interval import (
    common_factor, is_interval, is_octaves, is_wider, less, raised, ratio_of, unison, upon,
)


class IntervalTest(unittest.TestCase):
    def test_intervals(self):
        told = (
            [0, 0, 0, 0, 1], [-1, 1, 0, 0, 1], [7, 0, 0, 0, 12], [99, -99, 99, -99, 1], [1, 2, 4, 8, 24],
            [99, 0, 0, 0, 23],
        )
        for x in told:
            self.assertTrue(is_interval(x), x)

    def test_no_intervals(self):
        told = (
            [], [0], [0, 0, 0, 1], [0, 0, 0, 0, 1, 1], [0, 0, 0, 0, 0], [0, 0, 0, 0, 2], [0, 0, 0, 0, -1],
            [100, 0, 0, 0, 1], [0, -100, 0, 0, 1], [0, 0, 100, 0, 1], [0, 0, 0, -100, 1], [1, 0, 0, 0, 25],
            [1, 0, 0, 0, 0], [1, 0, 0, 0, -1], [2, 4, 0, 0, 2], [3, -6, 9, 0, 24], [0, 0, 0, 99, 3],
        )
        for x in told:
            self.assertFalse(is_interval(x), x)

    def test_common_factor(self):
        self.assertEqual(common_factor([0, 0]), 0)
        self.assertEqual(common_factor([0, -6, 4]), 2)
        self.assertEqual(common_factor([35, 21, 15]), 1)

    def test_unison_is_made_anew(self):
        changed = unison()
        changed[0] = 1
        self.assertEqual(unison(), [0, 0, 0, 0, 1])

    def test_upon(self):
        self.assertEqual(upon([-1, 1, 0, 0, 1], [2, -1, 0, 0, 1]), [1, 0, 0, 0, 1])
        self.assertEqual(upon([7, 0, 0, 0, 12], [5, 0, 0, 0, 12]), [1, 0, 0, 0, 1])
        self.assertEqual(upon([1, 0, 0, 0, 10], [1, 0, 0, 0, 15]), [1, 0, 0, 0, 6])
        self.assertEqual(upon([0, 1, 0, 0, 2], [0, 0, 1, -1, 3]), [0, 3, 2, -2, 6])
        self.assertEqual(upon([5, -3, 1, 0, 7], [-5, 3, -1, 0, 7]), [0, 0, 0, 0, 1])
        self.assertEqual(upon([99, 0, 0, 0, 1], [1, 0, 0, 0, 1]), [100, 0, 0, 0, 1])

    def test_less(self):
        self.assertEqual(less([1, 0, 0, 0, 1], [-1, 1, 0, 0, 1]), [2, -1, 0, 0, 1])
        self.assertEqual(less([1, 0, 0, 0, 6], [1, 0, 0, 0, 15]), [1, 0, 0, 0, 10])
        self.assertEqual(less([5, -3, 1, 2, 7], [5, -3, 1, 2, 7]), [0, 0, 0, 0, 1])
        self.assertEqual(less([-99, 0, 0, 0, 1], [1, 0, 0, 0, 1]), [-100, 0, 0, 0, 1])

    def test_octaves(self):
        for x in ([0, 0, 0, 0, 1], [1, 0, 0, 0, 1], [-7, 0, 0, 0, 1], [198, 0, 0, 0, 1]):
            self.assertTrue(is_octaves(x), x)
        for x in ([1, 0, 0, 0, 2], [1, 1, 0, 0, 1], [0, 0, -1, 0, 1], [2, 0, 0, 1, 1]):
            self.assertFalse(is_octaves(x), x)

    def test_ratio(self):
        self.assertEqual(ratio_of([0, 0, 0, 0]), (1, 1))
        self.assertEqual(ratio_of([3, -2, 1, -1]), (40, 63))
        self.assertEqual(ratio_of([-1, 4, -3, 2]), (3969, 250))

    def test_raised(self):
        for base in (2, 3, 5, 7):
            for power in (0, 1, 2, 3, 10, 99, 4752):
                self.assertEqual(raised(base, power), base ** power)

    def test_wider(self):
        rising = (
            [-99, -99, -99, -99, 1], [-1, 0, 0, 0, 1], [-1, 0, 0, 0, 24], [0, 0, 0, 0, 1], [-92, -17, 21, 25, 24],
            [-4, 4, -1, 0, 1], [-19, 12, 0, 0, 1], [1, 0, 0, 0, 12], [2, -1, 0, 0, 1], [7, 0, 0, 0, 12],
            [-1, 1, 0, 0, 1], [1, 0, 0, 0, 1], [99, 99, 99, 99, 1],
        )
        for k, x in enumerate(rising):
            for j, y in enumerate(rising):
                self.assertEqual(is_wider(x, y), k > j, (x, y))

    def test_wider_by_less_than_a_float_can_tell(self):
        wider = [-17, -87, -18, 80, 24]
        narrower = [-95, 6, -23, 59, 23]
        self.assertTrue(is_wider(wider, narrower))
        self.assertFalse(is_wider(narrower, wider))
        self.assertFalse(is_wider(wider, wider))


if __name__ == "__main__":
    unittest.main()
