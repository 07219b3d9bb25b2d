import unittest

from tests.helper import (GREATEST, again, ask, begin, flat, grade, last, lowering, machine, peak, plain, spike,
                          step, tyre)


class Again(unittest.TestCase):
    def test_half_of_both_together(self):
        answered = ask(begin(), plain(), tyre(0, 0, spike(100, 2)), again(0, 0, spike(40, 2)), peak(0),
                       again(0, 0, spike(10, 3)), peak(0), step(0))
        self.assertEqual(answered[4], [70, 70, 0])
        # 70 and 0 at point 2, 0 and 10 at point 3.
        self.assertEqual(answered[6:], [[35, 35, 0], [35]])

    def test_only_what_comes_is_corrected(self):
        calls = [begin(), plain(), machine(flat(30), flat(10)), tyre(0, 0, flat(100))]
        self.assertEqual(last(*calls, again(0, 1, flat(200)), peak(0)), [0, 160, 160])
        self.assertEqual(last(*calls, again(0, 0, flat(200)), peak(0)), [0, 150, 150])

    def test_rounded_down(self):
        for old, new, half in [(0, 1, 0), (1, 0, 0), (1, 1, 1), (1, 2, 1), (3, 4, 3), (5, 5, 5)]:
            self.assertEqual(last(begin(), plain(), tyre(0, 0, flat(old)), again(0, 0, flat(new)), peak(0)),
                             [0, half, half])

    def test_halves_below_nought_are_rounded_down(self):
        for old, new, half in [(0, -1, -1), (-1, 0, -1), (-1, -2, -2), (-2, -2, -2), (-3, 2, -1), (-10, -5, -8)]:
            calls = [begin(), lowering(10), tyre(0, 0, flat(old + 10)), again(0, 0, flat(new + 10)), peak(0)]
            self.assertEqual(last(*calls), [0, half, half])

    def test_halves_on_both_sides_of_nought(self):
        # -1 and 1 together, halved, at points 0 and 1: -0.5 is -1, 0.5 is 0.
        calls = [begin(), lowering(1), tyre(0, 0, [0, 2] + [1] * 10), again(0, 0, flat(1)), peak(0)]
        self.assertEqual(last(*calls), [1, 0, -1])

    def test_the_grade_then(self):
        calls = [begin(), grade(0, 0, 0), grade(30, 30, 5), plain(), tyre(0, 0, spike(60)), again(0, 0, flat(0)),
                 again(0, 0, spike(200)), tyre(0, 0, spike(1)), again(1, 0, flat(0))]
        self.assertEqual(ask(*calls)[4:], [[0, 0], [2], [0], [1, 2], [1]])

    def test_without_grades(self):
        self.assertEqual(last(begin(), plain(), tyre(0, 0, flat(0)), again(0, 0, flat(0))), [0])

    def test_no_such_tyre_or_machine(self):
        calls = [begin(), plain(), tyre(0, 0, flat(0))]
        for t, k in [(1, 0), (0, 1), (1, 1), (GREATEST, 0), (0, GREATEST)]:
            self.assertEqual(last(*calls, again(t, k, flat(0))), [-2])

    def test_out_of_range(self):
        calls = [begin(), plain(), tyre(0, 0, flat(0))]
        for size in (0, 1, 11, 13, 24, 30):
            self.assertEqual(last(*calls, again(0, 0, [1] * size)), [-22])
        for above in (2001, GREATEST):
            for point in (0, 11):
                self.assertEqual(last(*calls, again(0, 0, spike(above, point))), [-22])
        self.assertEqual(last(*calls, again(0, 0, flat(2000))), [0])

    def test_no_such_goes_ahead_of_out_of_range(self):
        calls = [begin(), plain(), tyre(0, 0, flat(0))]
        self.assertEqual(last(*calls, again(1, 0, [])), [-2])
        self.assertEqual(last(*calls, again(0, 1, flat(2001))), [-2])

    def test_a_refused_one_leaves_the_tyre(self):
        calls = [begin(), plain(), tyre(0, 0, spike(60))]
        for wrong in (again(0, 1, flat(9)), again(1, 0, flat(9)), again(0, 0, [9] * 11), again(0, 0, spike(2001))):
            self.assertEqual(ask(*calls, wrong, peak(0))[-1], [60, 60, 0])

    def test_only_that_tyre_is_changed(self):
        answered = ask(begin(), plain(), tyre(0, 0, spike(60)), tyre(0, 0, spike(60)), again(1, 0, flat(0)),
                       peak(0), peak(1))
        self.assertEqual(answered[-2:], [[60, 60, 0], [30, 30, 0]])

    def test_no_more_tyres_and_also_when_there_are_sixty(self):
        full = [begin(), plain()] + [tyre(0, 0, flat(0))] * 60
        self.assertEqual(ask(*full, again(59, 0, flat(8)), peak(59), peak(60))[-3:], [[0], [0, 4, 4], [-2]])


if __name__ == "__main__":
    unittest.main()
