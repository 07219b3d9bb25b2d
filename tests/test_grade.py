import unittest

from tests.helper import GREATEST, TENT, ask, begin, flat, grade, last, plain, spike, turn, tyre


def grade_of(points, *grades):
    """A tyre's grade and one, of these grades."""
    return last(begin(), *[grade(*most) for most in grades], plain(), tyre(0, 0, points))[1]


class Grade(unittest.TestCase):
    def test_numbers(self):
        self.assertEqual(ask(begin(), grade(1, 2, 3), grade(0, 0, 0), grade(2000, 2000, 2000), grade(1, 2, 3)),
                         [[0], [0], [1], [2], [3]])

    def test_four_and_one_more(self):
        self.assertEqual(ask(begin(), *[grade(1, 1, 1)] * 6)[4:], [[3], [-28], [-28]])

    def test_just_two_thousand_and_above(self):
        self.assertEqual(last(begin(), grade(2000, 2000, 2000)), [0])
        for above in (2001, GREATEST):
            for most in [(above, 0, 0), (0, above, 0), (0, 0, above), (above, above, above)]:
                self.assertEqual(last(begin(), grade(*most)), [-22])

    def test_out_of_range_goes_ahead_of_too_many(self):
        self.assertEqual(last(begin(), *[grade(1, 1, 1)] * 4, grade(0, 2001, 0)), [-22])

    def test_a_refused_one_is_not_kept(self):
        self.assertEqual(ask(begin(), grade(2001, 2000, 2000), grade(1, 1, 1), plain(), tyre(0, 0, spike(9)))[1:],
                         [[-22], [0], [0], [0, 0]])
        full = [begin()] + [grade(1, 1, 1)] * 4 + [grade(2000, 2000, 2000), plain(), tyre(0, 0, spike(9))]
        self.assertEqual(last(*full), [0, 0])


class OfAGrade(unittest.TestCase):
    def test_all_three_just_the_most(self):
        self.assertEqual(grade_of(TENT, (60, 10, 24)), 1)

    def test_one_just_above(self):
        self.assertEqual(grade_of(TENT, (59, 10, 24)), 0)
        self.assertEqual(grade_of(TENT, (60, 9, 24)), 0)
        self.assertEqual(grade_of(TENT, (60, 10, 23)), 0)

    def test_the_first_that_it_keeps(self):
        self.assertEqual(grade_of(TENT, (59, 10, 24), (60, 9, 24), (60, 10, 23), (60, 10, 24)), 4)
        self.assertEqual(grade_of(TENT, (59, 10, 24), (60, 10, 24), (60, 10, 24)), 2)
        self.assertEqual(grade_of(TENT, (2000, 2000, 2000), (60, 10, 24)), 1)

    def test_without_grades(self):
        self.assertEqual(grade_of(flat(0)), 0)

    def test_limits_of_nought(self):
        self.assertEqual(grade_of(flat(0), (0, 0, 0)), 1)
        self.assertEqual(grade_of(flat(2000), (0, 0, 0)), 1)
        self.assertEqual(grade_of(spike(1), (0, 0, 0)), 0)
        self.assertEqual(grade_of(spike(1), (1, 0, 0)), 0)
        self.assertEqual(grade_of(spike(1), (0, 1, 0)), 0)
        # Across is 1000, which is less than 6000: the wave is 0.
        self.assertEqual(grade_of(spike(1), (1, 1, 0)), 1)

    def test_the_step_from_the_last_point_to_the_first(self):
        rising = [10 * i for i in range(12)]
        self.assertEqual(grade_of(rising, (110, 110, 2000)), 1)
        self.assertEqual(grade_of(rising, (110, 109, 2000)), 0)

    def test_a_grade_that_comes_later_counts_from_then_on(self):
        answered = ask(begin(), plain(), tyre(0, 0, TENT), turn(0, 0), grade(0, 0, 0), turn(0, 0),
                       grade(60, 10, 24), turn(0, 0))
        self.assertEqual(answered[2:], [[0, 0], [0], [0], [0], [1], [2]])


class Wave(unittest.TestCase):
    """A wave is seen by the least most that it keeps to."""

    def assert_wave(self, points, wave):
        self.assertEqual(grade_of(points, (2000, 2000, wave)), 1)
        if wave > 0:
            self.assertEqual(grade_of(points, (2000, 2000, wave - 1)), 0)

    def test_just_the_most_and_just_above(self):
        # At point 0 across is 1000 times the point: 60000 and 65000 make 10, 66000 makes 11.
        self.assertEqual(grade_of(spike(60), (2000, 2000, 10)), 1)
        self.assertEqual(grade_of(spike(65), (2000, 2000, 10)), 1)
        self.assertEqual(grade_of(spike(66), (2000, 2000, 10)), 0)
        self.assertEqual(grade_of(spike(59), (2000, 2000, 9)), 1)
        self.assertEqual(grade_of(spike(60), (2000, 2000, 9)), 0)

    def test_on_the_circle_s_whole_points(self):
        for point in (0, 3, 6, 9):
            self.assert_wave(spike(60, point), 10)

    def test_between_them_the_circle_is_rounded(self):
        # 866 and 500 squared are 999956 together: 60 times the root is 59998, which makes 9.
        for point in (1, 2, 4, 5, 7, 8, 10, 11):
            self.assert_wave(spike(60, point), 9)
            self.assert_wave(spike(61, point), 10)

    def test_across_and_upwards_together(self):
        # 3 and 4 make 5: across 36000, upwards 48000, the root is 60000.
        row = flat(0)
        row[0] = 36
        row[3] = 48
        self.assert_wave(row, 10)
        row[3] = 47
        self.assert_wave(row, 9)

    def test_opposite_points_take_each_other_away(self):
        row = flat(0)
        row[2] = 700
        row[8] = 700
        self.assert_wave(row, 0)

    def test_all_points_alike(self):
        self.assert_wave(flat(0), 0)
        self.assert_wave(flat(1999), 0)

    def test_great_ones(self):
        # Six points at 2000 from 10 to 3: across 2000 * (1000 + 866 + 500 + 866 + 500 + 0) = 7464000,
        # upwards 2000 * (500 + 866 + 1000 - 866 - 500) = 2000000; the root is 7727308, the wave 1287.
        row = [2000, 2000, 2000, 2000, 0, 0, 0, 0, 0, 0, 2000, 2000]
        self.assert_wave(row, 1287)


if __name__ == "__main__":
    unittest.main()
