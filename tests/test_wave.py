import unittest

from tests.helper import (GREATEST, TENT, again, ask, begin, flat, last, lowering, machine, plain, spike, turn, tyre,
                          wave, weight, with_tyre)


def waved(row):
    return with_tyre(row, wave(0))[0]


def two_points(first, value, second, other):
    row = flat(0)
    row[first] = value
    row[second] = other
    return row


class Wave(unittest.TestCase):
    def test_one_point(self):
        self.assertEqual(waved(spike(60)), [10, 0, 60000, 0])
        self.assertEqual(waved(spike(60, 3)), [10, 3, 0, 60000])
        self.assertEqual(waved(spike(60, 6)), [10, 6, -60000, 0])
        self.assertEqual(waved(spike(60, 9)), [10, 9, 0, -60000])

    def test_between_the_circle_s_whole_points(self):
        # 60 times 866 and 500; squared and together they make a root of 59998.
        self.assertEqual(waved(spike(60, 1)), [9, 1, 51960, 30000])
        self.assertEqual(waved(spike(60, 2)), [9, 2, 30000, 51960])
        self.assertEqual(waved(spike(60, 4)), [9, 4, -30000, 51960])
        self.assertEqual(waved(spike(60, 5)), [9, 5, -51960, 30000])
        self.assertEqual(waved(spike(60, 7)), [9, 7, -51960, -30000])
        self.assertEqual(waved(spike(60, 8)), [9, 8, -30000, -51960])
        self.assertEqual(waved(spike(60, 10)), [9, 10, 30000, -51960])
        self.assertEqual(waved(spike(60, 11)), [9, 11, 51960, -30000])

    def test_all_round(self):
        self.assertEqual(waved(TENT), [24, 6, -149280, 0])

    def test_rounded_down(self):
        for value, rounded in [(0, 0), (5, 0), (6, 1), (11, 1), (12, 2), (59, 9), (65, 10), (66, 11)]:
            self.assertEqual(waved(spike(value))[0], rounded)
            self.assertEqual(waved(spike(value, 6))[0], rounded)

    def test_of_both_pushes(self):
        # 36 and 48 thousand make 60 thousand; the crest is at point 2, where they make
        # 36000 * 500 + 48000 * 866 = 59568000 (at point 1 55176000).
        self.assertEqual(waved(two_points(0, 36, 3, 48)), [10, 2, 36000, 48000])
        self.assertEqual(waved(two_points(0, 36, 3, 47))[0], 9)

    def test_all_points_alike(self):
        for value in (0, 1, 2000):
            self.assertEqual(waved(flat(value)), [0, 0, 0, 0])
        self.assertEqual(last(begin(), lowering(7), tyre(0, 0, flat(0)), wave(0)), [0, 0, 0, 0])

    def test_what_takes_itself_away(self):
        self.assertEqual(waved(two_points(4, 90, 10, 90)), [0, 0, 0, 0])
        # 120 degrees apart: 1000 less twice 500, and 866 less 866.
        three = flat(0)
        three[0] = three[4] = three[8] = 77
        self.assertEqual(waved(three), [0, 0, 0, 0])

    def test_a_wave_of_nought_may_have_a_crest(self):
        self.assertEqual(waved(spike(1, 5)), [0, 5, -866, 500])
        self.assertEqual(waved(spike(1, 11)), [0, 11, 866, -500])

    def test_the_greatest_there_is(self):
        # Points 10 to 3 truly 2000 higher than measured, the others 2000 lower, and the tyre likewise:
        # 4000 and -2000, so 6000 times 1000 + 866 + 500 + 0 + 500 + 866 across, and 6000 times
        # 0 + 500 + 866 + 1000 - 866 - 500 upwards. At point 1 the crest would be 528000 lower.
        up = [2000, 2000, 2000, 2000, 0, 0, 0, 0, 0, 0, 2000, 2000]
        down = [2000 - point for point in up]
        self.assertEqual(last(begin(), machine(up, down), tyre(0, 0, up), wave(0)), [3863, 0, 22392000, 6000000])


class Crest(unittest.TestCase):
    def test_of_alike_ones_the_first(self):
        # 60 * 1366 each way: half between two points, which are alike. The root is 115908.
        self.assertEqual(waved(two_points(1, 60, 2, 60)), [19, 1, 81960, 81960])
        self.assertEqual(waved(two_points(4, 60, 5, 60)), [19, 4, -81960, 81960])
        self.assertEqual(waved(two_points(7, 60, 8, 60)), [19, 7, -81960, -81960])
        self.assertEqual(waved(two_points(10, 60, 11, 60)), [19, 10, 81960, -81960])

    def test_alike_at_the_first_and_the_last_point(self):
        # 250000 * 1000 at point 0; 250000 * 866 + 67000 * 500 is as much at point 11, or at point 1.
        self.assertEqual(waved(two_points(0, 250, 9, 67)), [43, 0, 250000, -67000])
        self.assertEqual(waved(two_points(0, 250, 3, 67)), [43, 0, 250000, 67000])

    def test_one_more_or_less_settles_it(self):
        self.assertEqual(waved(two_points(0, 250, 9, 68))[1], 11)
        self.assertEqual(waved(two_points(0, 250, 9, 66))[1], 0)
        self.assertEqual(waved(two_points(0, 250, 3, 68))[1], 1)
        self.assertEqual(waved(two_points(1, 60, 2, 61))[1], 2)

    def test_alike_at_other_points(self):
        self.assertEqual(waved(two_points(3, 250, 6, 67))[1], 3)
        self.assertEqual(waved(two_points(3, 250, 0, 67))[1], 2)
        self.assertEqual(waved(two_points(9, 250, 0, 67))[1], 9)
        self.assertEqual(waved(two_points(9, 250, 6, 67))[1], 8)


class BelowNought(unittest.TestCase):
    def test_a_dent(self):
        # -60 at point 2: the crest is at the opposite point.
        answered = last(begin(), machine(flat(0), spike(60, 2)), tyre(0, 0, flat(0)), wave(0))
        self.assertEqual(answered, [9, 8, -30000, -51960])

    def test_a_dent_at_point_nought(self):
        answered = last(begin(), machine(flat(0), spike(60)), tyre(0, 0, flat(0)), wave(0))
        self.assertEqual(answered, [10, 6, -60000, 0])

    def test_all_lowered_alike(self):
        for amount in (1, 60, 2000):
            self.assertEqual(last(begin(), lowering(amount), tyre(0, 0, spike(60, 4)), wave(0)), [9, 4, -30000, 51960])


class AsItIsThen(unittest.TestCase):
    def test_after_a_turn(self):
        # What was at point 4 is at point 1 then, and half round it is at point 7.
        answered = with_tyre(spike(60, 4), wave(0), turn(0, 3), wave(0), turn(0, 6), wave(0))
        self.assertEqual(answered[0::2], [[9, 4, -30000, 51960], [9, 1, 51960, 30000], [9, 7, -51960, -30000]])

    def test_after_again(self):
        answered = with_tyre(spike(60), again(0, 0, spike(60, 3)), wave(0), again(0, 0, flat(9)), wave(0))
        # 30 at points 0 and 3; then 19, 4 .. 4, 19, 4 ..: 15 more than 4 at both.
        self.assertEqual(answered[1::2], [[7, 1, 30000, 30000], [3, 1, 15000, 15000]])

    def test_it_only_tells(self):
        self.assertEqual(with_tyre(spike(60), wave(0), wave(0), weight(0)), [[10, 0, 60000, 0]] * 2 + [[60, 6, 0]])

    def test_each_tyre_by_itself(self):
        answered = ask(begin(), plain(), tyre(0, 0, spike(60)), tyre(0, 0, spike(6, 9)), wave(1), wave(0))
        self.assertEqual(answered[4:], [[1, 9, 0, -6000], [10, 0, 60000, 0]])


class NoSuchTyre(unittest.TestCase):
    def test_refused(self):
        self.assertEqual(last(begin(), wave(0)), [-2])
        self.assertEqual(last(begin(), plain(), wave(0)), [-2])
        for number in (1, 60, GREATEST):
            self.assertEqual(with_tyre(spike(60), wave(number), wave(0)), [[-2], [10, 0, 60000, 0]])

    def test_before_a_begin(self):
        self.assertEqual(ask(wave(0), begin(), wave(0)), [[-11], [0], [-2]])


if __name__ == "__main__":
    unittest.main()
