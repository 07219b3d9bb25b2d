import unittest

from tests.helper import (GREATEST, again, alarm, ask, begin, flat, grade, last, look, lowering, mould, plain, spike,
                          state, sums, tyre, turn, uneven)


def tyres(*moulds_and_peaks):
    """A tyre for each mould and peak."""
    return [tyre(0, m, spike(value)) for m, value in moulds_and_peaks]


class Mould(unittest.TestCase):
    def test_ordinary(self):
        calls = [begin(), grade(10, 10, 10), grade(20, 20, 20), plain()] + tyres((3, 10), (4, 99), (3, 25), (3, 20))
        self.assertEqual(ask(*calls, mould(3), mould(4))[-2:], [[3, 55, 25, 1], [1, 99, 99, 1]])

    def test_no_tyres_of_it(self):
        self.assertEqual(last(begin(), mould(0)), [0, 0, 0, 0])
        self.assertEqual(last(begin(), grade(1, 1, 1), plain(), *tyres((3, 10)), mould(2)), [0, 0, 0, 0])

    def test_tyres_of_no_grade_among_them(self):
        calls = [begin(), grade(10, 10, 10), plain()] + tyres((1, 11), (1, 10), (1, 12), (1, 0))
        self.assertEqual(last(*calls, mould(1)), [4, 33, 12, 2])

    def test_without_grades_all_are_of_none(self):
        self.assertEqual(last(begin(), plain(), *tyres((1, 0), (1, 0)), mould(1)), [2, 0, 0, 2])

    def test_a_grade_that_comes_behind_the_tyres(self):
        answered = ask(begin(), plain(), *tyres((1, 5), (1, 6)), mould(1), grade(5, 5, 5), mould(1))
        self.assertEqual([answered[4], answered[6]], [[2, 11, 6, 2], [2, 11, 6, 1]])

    def test_seven_and_eight(self):
        calls = [begin(), plain()] + tyres((7, 5), (0, 9))
        self.assertEqual(last(*calls, mould(7)), [1, 5, 5, 1])
        for number in (8, 9, GREATEST):
            self.assertEqual(ask(*calls, mould(number), mould(7))[-2:], [[-22], [1, 5, 5, 1]])
            self.assertEqual(last(begin(), mould(number)), [-22])

    def test_each_mould(self):
        calls = [begin(), plain()] + tyres(*[(m, 10 + m) for m in range(8)])
        self.assertEqual(ask(*calls, *[mould(m) for m in range(8)])[10:], [[1, 10 + m, 10 + m, 1] for m in range(8)])

    def test_below_nought(self):
        calls = [begin(), grade(30, 30, 30), lowering(100), tyre(0, 2, spike(30)), tyre(0, 2, spike(40, 5))]
        self.assertEqual(last(*calls, mould(2)), [2, 70, 40, 1])

    def test_sixty(self):
        calls = [begin(), plain()] + tyres(*[(5, i) for i in range(60)])
        self.assertEqual(last(*calls, mould(5)), [60, 1770, 59, 60])

    def test_before_a_begin(self):
        self.assertEqual(ask(mould(0), mould(8), begin(), mould(8)), [[-11], [-11], [0], [-22]])

    def test_after_again_and_turn(self):
        # 60 has a wave of 10 at point 0, of 9 at point 11.
        calls = [begin(), grade(60, 60, 9), plain()] + tyres((1, 60), (1, 90))
        answered = ask(*calls, mould(1), turn(0, 1), mould(1), again(1, 0, flat(0)), mould(1))
        self.assertEqual(answered[5::2], [[2, 150, 90, 2], [2, 150, 90, 1], [2, 105, 60, 0]])


class Uneven(unittest.TestCase):
    def told(self, *moulds_and_peaks):
        return last(begin(), plain(), *tyres(*moulds_and_peaks), uneven())

    def test_ordinary(self):
        # Means of 20, 30 and 25.
        self.assertEqual(self.told((2, 10), (5, 30), (2, 30), (6, 20), (6, 30)), [5, 30, 1])

    def test_no_tyres(self):
        self.assertEqual(last(begin(), uneven()), [-6])
        self.assertEqual(last(begin(), grade(1, 1, 1), plain(), uneven()), [-6])
        self.assertEqual(last(begin(), plain(), *tyres((1, 1)), begin(), uneven()), [-6])

    def test_refused_it_leaves_all_as_it_was(self):
        self.assertEqual(ask(begin(), grade(1, 1, 1), plain(), uneven(), state(), sums(), uneven())[3:],
                         [[-6], [0, 1, 1, 0], [0, 0, 0], [-6]])

    def test_one_mould(self):
        self.assertEqual(self.told((7, 0)), [7, 0, 1])
        self.assertEqual(self.told((4, 3), (4, 0), (4, 5)), [4, 8, 3])

    def test_it_is_the_mean_not_the_sum(self):
        self.assertEqual(self.told((0, 10), (0, 10), (0, 10), (1, 11)), [1, 11, 1])

    def test_it_is_the_mean_not_the_greatest(self):
        self.assertEqual(self.told((0, 100), (0, 0), (1, 51)), [1, 51, 1])

    def test_alike_on_the_mean_with_unlike_numbers(self):
        self.assertEqual(self.told((3, 10), (5, 5), (5, 15)), [3, 10, 1])
        self.assertEqual(self.told((5, 10), (3, 5), (3, 15)), [3, 20, 2])
        # 5 thirds and 10 sixths.
        self.assertEqual(self.told((1, 2), (1, 2), (1, 1), (0, 1), (2, 2), (2, 2), (2, 1), (2, 2), (2, 2), (2, 1)),
                         [1, 5, 3])
        self.assertEqual(self.told((6, 0), (2, 0), (2, 0), (4, 0)), [2, 0, 2])

    def test_means_that_differ_by_less_than_one(self):
        # A third and a half; then two thirds and a half.
        self.assertEqual(self.told((0, 1), (0, 0), (0, 0), (1, 1), (1, 0)), [1, 1, 2])
        self.assertEqual(self.told((0, 1), (0, 0), (1, 1), (1, 1), (1, 0)), [1, 2, 3])
        self.assertEqual(self.told((0, 1), (0, 1), (0, 0), (1, 1), (1, 0)), [0, 2, 3])
        # 10 and 10 and a half.
        self.assertEqual(self.told((0, 10), (4, 10), (4, 11)), [4, 21, 2])

    def test_means_that_differ_by_very_little(self):
        # 57 in 29 is 1.965, 58 in 30 is 1.933.
        first = [(6, 2)] * 28 + [(6, 1)]
        second = [(7, 2)] * 29 + [(7, 0)]
        self.assertEqual(self.told(*first, *second), [6, 57, 29])
        self.assertEqual(self.told(*[(7, value) for m, value in first], *[(6, value) for m, value in second]),
                         [7, 57, 29])

    def test_whatever_came_first(self):
        self.assertEqual(self.told((7, 9), (0, 8)), [7, 9, 1])
        self.assertEqual(self.told((7, 9), (0, 9)), [0, 9, 1])
        self.assertEqual(self.told((0, 8), (7, 9)), [7, 9, 1])

    def test_below_nought(self):
        calls = [begin(), plain(), lowering(2000), tyre(0, 0, spike(20)), tyre(1, 1, spike(21, 7))]
        self.assertEqual(last(*calls, uneven()), [1, 21, 1])

    def test_before_a_begin(self):
        self.assertEqual(ask(uneven(), begin(), uneven()), [[-11], [0], [-6]])

    def test_after_again_and_turn(self):
        calls = [begin(), plain()] + tyres((1, 60), (2, 50))
        answered = ask(*calls, uneven(), turn(0, 5), uneven(), again(0, 0, spike(60)), uneven(), again(0, 0, flat(0)),
                       uneven())
        self.assertEqual(answered[4::2], [[1, 60, 1], [1, 60, 1], [2, 50, 1], [2, 50, 1]])


class Alarm(unittest.TestCase):
    """Of grade 0 are tyres with a peak of at most 10, of grade 1 with one of at most 20."""

    def told(self, peaks, n, *others):
        calls = [begin(), grade(10, 10, 10), grade(20, 20, 20), plain()]
        return last(*calls, *tyres(*[(3, value) for value in peaks], *others), alarm(3, n))

    def test_ordinary(self):
        self.assertEqual(self.told([5, 15, 25, 12], 2), [1])
        self.assertEqual(self.told([5, 15, 25, 10], 2), [0])

    def test_grade_nought_just_within_and_just_outside(self):
        self.assertEqual(self.told([30, 5, 15, 25, 12], 3), [1])
        self.assertEqual(self.told([30, 5, 15, 25, 12], 4), [0])
        self.assertEqual(self.told([30, 5, 15, 25, 12], 5), [0])

    def test_the_last_one(self):
        self.assertEqual(self.told([0, 0, 11], 1), [1])
        self.assertEqual(self.told([11, 11, 0], 1), [0])

    def test_exactly_so_many_and_fewer(self):
        self.assertEqual(self.told([11, 12], 2), [1])
        self.assertEqual(self.told([10, 12], 2), [0])
        self.assertEqual(self.told([11, 12], 3), [-12])
        self.assertEqual(self.told([], 1), [-12])
        self.assertEqual(self.told([11, 12], 61), [-12])
        self.assertEqual(self.told([11, 12], GREATEST), [-12])

    def test_only_tyres_of_that_mould(self):
        self.assertEqual(self.told([11, 12], 2, (2, 0), (4, 0)), [1])
        self.assertEqual(self.told([0, 12], 2, (2, 30), (4, 30)), [0])
        self.assertEqual(self.told([11, 12], 3, (2, 0), (4, 0)), [-12])

    def test_moulds_in_between(self):
        calls = [begin(), grade(10, 10, 10), plain()] + tyres((3, 0), (1, 11), (3, 11), (1, 0), (3, 11), (1, 11))
        self.assertEqual(ask(*calls, alarm(3, 2), alarm(3, 3), alarm(1, 1), alarm(1, 2))[-4:], [[1], [0], [1], [0]])

    def test_no_grades_at_all(self):
        self.assertEqual(last(begin(), plain(), *tyres((3, 0), (3, 0)), alarm(3, 2)), [1])

    def test_of_no_grade_is_not_of_grade_nought(self):
        self.assertEqual(self.told([21, 99], 2), [1])

    def test_a_grade_that_comes_behind_the_tyres(self):
        answered = ask(begin(), plain(), *tyres((3, 5)), alarm(3, 1), grade(5, 5, 5), alarm(3, 1))
        self.assertEqual([answered[3], answered[5]], [[1], [0]])

    def test_none_and_moulds_above_seven(self):
        calls = [begin(), plain()] + tyres((7, 5))
        self.assertEqual(last(*calls, alarm(7, 1)), [1])
        for m, n in [(7, 0), (0, 0), (8, 1), (8, 0), (9, 1), (GREATEST, 1), (GREATEST, GREATEST), (GREATEST, 0)]:
            self.assertEqual(last(*calls, alarm(m, n)), [-22])

    def test_out_of_range_goes_ahead_of_too_few(self):
        self.assertEqual(last(begin(), alarm(8, 1)), [-22])
        self.assertEqual(last(begin(), alarm(0, 0)), [-22])
        self.assertEqual(last(begin(), alarm(0, 1)), [-12])

    def test_sixty(self):
        calls = [begin(), grade(0, 0, 0), plain()] + tyres((2, 0), *[(2, 5)] * 59)
        self.assertEqual(ask(*calls, alarm(2, 59), alarm(2, 60), alarm(2, 61))[-3:], [[1], [0], [-12]])

    def test_before_a_begin(self):
        self.assertEqual(ask(alarm(0, 1), alarm(8, 0), begin(), alarm(0, 1)), [[-11], [-11], [0], [-12]])

    def test_refused_it_leaves_all_as_it_was(self):
        calls = [begin(), grade(5, 5, 5), plain()] + tyres((3, 5))
        told = [alarm(3, 1), look(0), sums(), state()]
        as_it_was = ask(*calls, *told)[4:]
        for wrong in (alarm(3, 2), alarm(3, 0), alarm(8, 1)):
            self.assertEqual(ask(*calls, wrong, *told)[5:], as_it_was)

    def test_after_again_and_turn(self):
        # 60 has a wave of 10 at point 0, of 9 at point 11.
        calls = [begin(), grade(60, 60, 9), plain()] + tyres((3, 60))
        answered = ask(*calls, alarm(3, 1), turn(0, 1), alarm(3, 1), turn(0, 11), alarm(3, 1), again(0, 0, flat(0)),
                       alarm(3, 1))
        self.assertEqual(answered[4::2], [[1], [0], [1], [0]])

    def test_again_does_not_make_a_tyre_later(self):
        calls = [begin(), grade(10, 10, 10), plain()] + tyres((3, 0), (3, 11))
        self.assertEqual(ask(*calls, again(0, 0, flat(0)), alarm(3, 1))[-1], [1])


if __name__ == "__main__":
    unittest.main()
