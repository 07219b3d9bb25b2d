import unittest

from tests.helper import (GREATEST, TENT, again, alarm, ask, begin, flat, grade, graded, last, look, lowering, mould,
                          of, plain, spike, sums, tyre, turn, why)


def judged(row, most, *calls):
    """Of one tyre and one grade."""
    return ask(begin(), grade(*most), plain(), tyre(0, 0, row), *calls)[4:]


class Graded(unittest.TestCase):
    def test_the_grade_s_number(self):
        answered = ask(begin(), grade(0, 0, 0), grade(60, 60, 10), plain(), tyre(0, 0, flat(5)), tyre(0, 0, spike(60)),
                       tyre(0, 0, spike(61)), graded(0), graded(1), graded(2))
        self.assertEqual(answered[-3:], [[0], [1], [-33]])

    def test_the_last_of_four(self):
        calls = [begin(), grade(59, 10, 24), grade(60, 9, 24), grade(60, 10, 23), grade(60, 10, 24), plain()]
        self.assertEqual(last(*calls, tyre(0, 0, TENT), graded(0)), [3])

    def test_a_tyre_that_keeps_to_two_is_of_the_first(self):
        calls = [begin(), grade(59, 10, 24), grade(60, 10, 24), grade(60, 10, 24), plain(), tyre(0, 0, TENT)]
        self.assertEqual(last(*calls, graded(0)), [1])

    def test_without_grades(self):
        self.assertEqual(last(begin(), plain(), tyre(0, 0, flat(0)), graded(0)), [-33])

    def test_limits_of_nought(self):
        self.assertEqual(judged(flat(2000), (0, 0, 0), graded(0)), [[0]])
        self.assertEqual(judged(spike(1), (0, 0, 0), graded(0)), [[-33]])
        self.assertEqual(judged(spike(5), (5, 5, 0), graded(0)), [[0]])
        self.assertEqual(judged(spike(6), (6, 6, 0), graded(0)), [[-33]])

    def test_a_wave_that_is_just_the_most_and_one_above_it(self):
        for value, answered in [(59, 0), (60, 0), (65, 0), (66, -33)]:
            self.assertEqual(judged(spike(value), (2000, 2000, 10), graded(0)), [[answered]])

    def test_peak_and_step_just_the_most_and_one_above_it(self):
        for most, answered in [((60, 10, 24), 0), ((59, 10, 24), -33), ((60, 9, 24), -33), ((60, 10, 23), -33)]:
            self.assertEqual(judged(TENT, most, graded(0)), [[answered]])

    def test_a_grade_that_comes_behind_the_tyre(self):
        answered = ask(begin(), plain(), tyre(0, 0, TENT), graded(0), grade(0, 0, 0), graded(0), grade(60, 10, 24),
                       graded(0), grade(2000, 2000, 2000), graded(0))
        self.assertEqual(answered[3::2], [[-33], [-33], [1], [1]])

    def test_below_nought(self):
        self.assertEqual(last(begin(), grade(60, 10, 24), lowering(1000), tyre(0, 0, TENT), graded(0)), [0])

    def test_no_such_tyre(self):
        self.assertEqual(last(begin(), grade(1, 1, 1), graded(0)), [-2])
        for number in (1, 60, GREATEST):
            # Of none, too, but that there's none such is told first.
            self.assertEqual(last(begin(), plain(), tyre(0, 0, flat(0)), graded(number)), [-2])

    def test_before_a_begin(self):
        self.assertEqual(ask(graded(0), begin(), graded(0)), [[-11], [0], [-2]])

    def test_after_again_and_turn(self):
        # 60 has a wave of 10 at point 0, of 9 at point 11.
        answered = ask(begin(), grade(2000, 2000, 9), plain(), tyre(0, 0, spike(60)), graded(0), turn(0, 1), graded(0),
                       turn(0, 11), graded(0), again(0, 0, flat(0)), graded(0))
        self.assertEqual(answered[4::2], [[-33], [0], [-33], [0]])

    def test_a_refusal_leaves_all_as_it_was(self):
        answered = judged(spike(61), (60, 60, 10), sums(), look(0), graded(0), graded(1), sums(), look(0))
        self.assertEqual(answered, [[0, 1, 0], [0, 0], [-33], [-2], [0, 1, 0], [0, 0]])


class Why(unittest.TestCase):
    def why_of(self, row, most):
        return judged(row, most, why(0, 0))[0]

    def test_it_is_of_that_grade(self):
        self.assertEqual(self.why_of(TENT, (60, 10, 24)), [0])
        self.assertEqual(self.why_of(TENT, (2000, 2000, 2000)), [0])

    def test_one_is_more(self):
        self.assertEqual(self.why_of(TENT, (59, 10, 24)), [1])
        self.assertEqual(self.why_of(TENT, (60, 9, 24)), [2])
        self.assertEqual(self.why_of(TENT, (60, 10, 23)), [3])

    def test_the_first_of_several(self):
        self.assertEqual(self.why_of(TENT, (59, 9, 24)), [1])
        self.assertEqual(self.why_of(TENT, (59, 10, 23)), [1])
        self.assertEqual(self.why_of(TENT, (59, 9, 23)), [1])
        self.assertEqual(self.why_of(TENT, (60, 9, 23)), [2])

    def test_limits_of_nought(self):
        self.assertEqual(self.why_of(flat(0), (0, 0, 0)), [0])
        self.assertEqual(self.why_of(flat(2000), (0, 0, 0)), [0])
        self.assertEqual(self.why_of(spike(1), (0, 0, 0)), [1])
        self.assertEqual(self.why_of(spike(1), (1, 0, 0)), [2])
        self.assertEqual(self.why_of(spike(1), (1, 1, 0)), [0])
        self.assertEqual(self.why_of(spike(6), (6, 6, 0)), [3])

    def test_a_wave_that_is_just_the_most_and_one_above_it(self):
        for value, answered in [(60, 0), (65, 0), (66, 3)]:
            self.assertEqual(self.why_of(spike(value), (2000, 2000, 10)), [answered])

    def test_the_step_from_the_last_point_to_the_first(self):
        rising = [10 * i for i in range(12)]
        self.assertEqual(self.why_of(rising, (110, 110, 2000)), [0])
        self.assertEqual(self.why_of(rising, (110, 109, 2000)), [2])

    def test_a_later_grade_that_it_keeps_to_as_well(self):
        calls = [begin(), grade(60, 10, 24), grade(60, 10, 24), grade(60, 9, 24), grade(0, 0, 0), plain()]
        answered = ask(*calls, tyre(0, 0, TENT), *[why(0, g) for g in range(4)])
        self.assertEqual(answered[-4:], [[0], [0], [2], [1]])

    def test_a_grade_that_comes_behind_the_tyre(self):
        answered = ask(begin(), plain(), tyre(0, 0, TENT), why(0, 0), grade(60, 10, 23), why(0, 0), why(0, 1))
        self.assertEqual(answered[3:], [[-2], [0], [3], [-2]])

    def test_no_such_tyre_or_grade(self):
        calls = [begin(), grade(1, 1, 1), plain(), tyre(0, 0, flat(0))]
        for t, g in [(1, 0), (0, 1), (1, 1), (0, 4), (GREATEST, 0), (0, GREATEST), (GREATEST, GREATEST)]:
            self.assertEqual(ask(*calls, why(t, g), why(0, 0))[-2:], [[-2], [0]])
        self.assertEqual(last(begin(), why(0, 0)), [-2])

    def test_before_a_begin(self):
        self.assertEqual(ask(why(0, 0), begin(), why(0, 0)), [[-11], [0], [-2]])

    def test_after_again_and_turn(self):
        answered = ask(begin(), grade(60, 60, 9), plain(), tyre(0, 0, spike(60)), why(0, 0), turn(0, 1), why(0, 0),
                       turn(0, 11), why(0, 0), again(0, 0, spike(200)), why(0, 0))
        self.assertEqual(answered[4::2], [[3], [0], [3], [1]])


class Of(unittest.TestCase):
    def setUp(self):
        self.calls = [begin(), grade(0, 0, 0), grade(30, 30, 30), grade(60, 60, 60), plain()]

    def tyres(self, *values):
        return [tyre(0, 0, spike(value)) for value in values]

    def test_several_rising(self):
        calls = self.calls + self.tyres(60, 30, 0, 61, 25, 0, 1)
        self.assertEqual(ask(*calls, of(0), of(1), of(2))[-3:], [[2, 2, 5], [3, 1, 4, 6], [1, 0]])

    def test_no_tyre_of_that_grade(self):
        self.assertEqual(ask(*self.calls, of(0), of(1), of(2))[-3:], [[0]] * 3)
        self.assertEqual(last(*self.calls, *self.tyres(60, 61), of(1)), [0])

    def test_a_tyre_that_keeps_to_it_but_is_of_an_earlier_one(self):
        calls = self.calls + self.tyres(0, 20)
        self.assertEqual(ask(*calls, why(0, 2), of(2), of(1), of(0))[-4:], [[0], [0], [1, 1], [1, 0]])

    def test_grades_alike(self):
        calls = [begin(), grade(9, 9, 9), grade(9, 9, 9), plain()] + self.tyres(9, 9)
        self.assertEqual(ask(*calls, of(0), of(1))[-2:], [[2, 0, 1], [0]])

    def test_a_grade_that_comes_behind_the_tyres(self):
        calls = [begin(), plain()] + self.tyres(5, 7)
        self.assertEqual(ask(*calls, of(0), grade(5, 5, 5), of(0), of(1), grade(8, 8, 8), of(1))[4:],
                         [[-2], [0], [1, 0], [-2], [1], [1, 1]])

    def test_sixty(self):
        calls = self.calls + self.tyres(*[30] * 60)
        self.assertEqual(ask(*calls, of(0), of(1))[-2:], [[0], [60] + list(range(60))])

    def test_no_such_grade(self):
        for number in (3, 4, GREATEST):
            self.assertEqual(last(*self.calls, of(number)), [-2])
        self.assertEqual(last(begin(), of(0)), [-2])

    def test_before_a_begin(self):
        self.assertEqual(ask(of(0), begin(), of(0)), [[-11], [0], [-2]])

    def test_after_again_and_turn(self):
        calls = self.calls + self.tyres(60, 20)
        answered = ask(*calls, of(1), again(0, 0, flat(0)), of(1), of(2))
        self.assertEqual([answered[7], answered[9], answered[10]], [[1, 1], [2, 0, 1], [0]])
        by_turn = ask(begin(), grade(60, 60, 9), plain(), tyre(0, 0, spike(60)), of(0), turn(0, 1), of(0))
        self.assertEqual([by_turn[4], by_turn[6]], [[0], [1, 0]])


class TheSameOfOneTyre(unittest.TestCase):
    def told_of(self, row, mosts, *before):
        """Its grade and one, as each of the calls tells it of a tyre that is alone."""
        size = len(mosts)
        calls = [begin(), *[grade(*most) for most in mosts], plain(), tyre(0, 6, row), *before]
        answered = ask(*calls, graded(0), look(0), mould(6), alarm(6, 1), sums(), turn(0, 0),
                       *[of(g) for g in range(size)])[len(calls):]
        told, looked, moulded, alarmed, summed, turned_by = answered[:6]
        and_one = looked[1]
        self.assertEqual(told, [-33] if and_one == 0 else [and_one - 1])
        self.assertEqual(turned_by, [and_one])
        self.assertEqual(moulded[3], 1 if and_one == 0 else 0)
        self.assertEqual(alarmed, [0 if and_one == 1 else 1])
        self.assertEqual(summed, [0, 1] + [1 if g + 1 == and_one else 0 for g in range(size)])
        self.assertEqual(answered[6:], [[1, 0] if g + 1 == and_one else [0] for g in range(size)])
        return and_one

    def test_each_grade(self):
        mosts = [(0, 0, 0), (30, 30, 5), (60, 60, 9), (60, 60, 10)]
        for row, and_one in [(flat(3), 1), (spike(30), 2), (spike(60, 1), 3), (spike(60), 4), (spike(61), 0)]:
            self.assertEqual(self.told_of(row, mosts), and_one)

    def test_none_to_four_grades(self):
        for size in range(5):
            self.assertEqual(self.told_of(flat(0), [(0, 0, 0)] * size), min(size, 1))
            self.assertEqual(self.told_of(spike(1), [(0, 0, 0)] * size), 0)

    def test_after_again_and_turn(self):
        mosts = [(60, 60, 9), (60, 60, 10)]
        self.assertEqual(self.told_of(spike(60), mosts, turn(0, 1)), 1)
        self.assertEqual(self.told_of(spike(60, 1), mosts, turn(0, 1)), 2)
        self.assertEqual(self.told_of(spike(60), mosts, again(0, 0, flat(0))), 1)
        self.assertEqual(self.told_of(spike(60), mosts, again(0, 0, spike(62))), 0)


if __name__ == "__main__":
    unittest.main()
