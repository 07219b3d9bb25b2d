import math
import unittest

from tests.helper import CIRCLE, flat, spike
from tyresjudged.rows import across, turned, upwards, wave, wave_squared, whole_root


class Rows(unittest.TestCase):
    def test_turned_it_has_at_each_point_what_was_k_further(self):
        row = [7, 3, 9, 1, 0, 4, 8, 2, 6, 5, 11, 10]
        for k in range(12):
            self.assertEqual(turned(row, k), [row[(i + k) % 12] for i in range(12)])
        self.assertEqual(row, [7, 3, 9, 1, 0, 4, 8, 2, 6, 5, 11, 10])

    def test_across_and_upwards_point_by_point(self):
        # Upwards is with the circle's three points before: of point 0 that is the circle's at 9.
        before = [0, 500, 866, 1000, 866, 500, 0, -500, -866, -1000, -866, -500]
        for point in range(12):
            self.assertEqual(across(spike(1, point)), CIRCLE[point])
            self.assertEqual(upwards(spike(1, point)), before[point])

    def test_across_and_upwards_are_sums(self):
        row = [-3, 0, 0, 5, 0, 0, 1, 2, 0, 0, 0, 0]
        self.assertEqual(across(row), -3000 - 1000 - 2 * 866)
        self.assertEqual(upwards(row), 5000 - 2 * 500)

    def test_half_round_the_wave_is_turned_about(self):
        row = [-3, 60, 7, 5, -90, 0, 1, 2, 44, 0, 8, 13]
        self.assertEqual(across(turned(row, 6)), -across(row))
        self.assertEqual(upwards(turned(row, 6)), -upwards(row))

    def test_the_wave(self):
        self.assertEqual(wave(flat(-2000)), 0)
        self.assertEqual(wave_squared(spike(-60)), 3600000000)
        self.assertEqual(wave(spike(-60)), 10)
        self.assertEqual(wave(spike(-60, 1)), 9)

    def test_the_whole_root(self):
        for number in list(range(300)) + [10 ** 15, 48000000 ** 2, 2 * 48000000 ** 2]:
            for square in (number, max(0, number * number - 1), number * number, number * number + 1):
                self.assertEqual(whole_root(square), math.isqrt(square))


if __name__ == "__main__":
    unittest.main()
