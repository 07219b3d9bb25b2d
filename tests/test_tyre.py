import unittest

from tests.helper import (GREATEST, ask, begin, flat, grade, last, lowering, peak, plain, spike, step, turn, tyre)


class TyreCall(unittest.TestCase):
    def test_numbers_and_grades(self):
        answered = ask(begin(), grade(0, 0, 0), grade(60, 60, 10), plain(),
                       tyre(0, 0, flat(5)), tyre(0, 7, spike(60)), tyre(0, 3, spike(61)), tyre(0, 3, flat(0)))
        self.assertEqual(answered[4:], [[0, 1], [1, 2], [2, 0], [3, 1]])

    def test_it_is_graded_as_corrected(self):
        measured = spike(60)
        calls = [begin(), grade(0, 0, 0), [2, 24] + flat(0) + measured]
        self.assertEqual(last(*calls, tyre(0, 0, measured)), [0, 1])
        self.assertEqual(last(*calls, tyre(0, 0, flat(0))), [0, 0])

    def test_a_row_below_nought_is_graded_alike(self):
        self.assertEqual(last(begin(), grade(60, 60, 10), lowering(1000), tyre(0, 0, spike(60))), [0, 1])
        self.assertEqual(last(begin(), grade(60, 60, 10), lowering(1000), tyre(0, 0, spike(61))), [0, 0])

    def test_no_such_machine(self):
        self.assertEqual(last(begin(), tyre(0, 0, flat(0))), [-2])
        self.assertEqual(last(begin(), plain(), tyre(1, 0, flat(0))), [-2])
        self.assertEqual(last(begin(), plain(), tyre(GREATEST, 0, flat(0))), [-2])

    def test_moulds(self):
        for mould in range(8):
            self.assertEqual(last(begin(), plain(), tyre(0, mould, flat(0))), [0, 0])
        for mould in (8, GREATEST):
            self.assertEqual(last(begin(), plain(), tyre(0, mould, flat(0))), [-22])

    def test_only_twelve_points(self):
        for size in (0, 1, 11, 13, 24, 30):
            self.assertEqual(last(begin(), plain(), tyre(0, 0, [1] * size)), [-22])
        self.assertEqual(last(begin(), plain(), tyre(0, 0, [1] * 12)), [0, 0])

    def test_just_two_thousand_and_above(self):
        self.assertEqual(last(begin(), plain(), tyre(0, 0, flat(2000))), [0, 0])
        for above in (2001, GREATEST):
            for point in (0, 5, 11):
                self.assertEqual(last(begin(), plain(), tyre(0, 0, spike(above, point))), [-22])

    def test_what_is_measured_counts_not_what_is_corrected(self):
        # Corrected it would be 1, but 2001 was measured.
        self.assertEqual(last(begin(), lowering(2000), tyre(0, 0, flat(2001))), [-22])

    def test_sixty_and_one_more(self):
        answered = ask(begin(), plain(), *[tyre(0, i % 8, flat(i)) for i in range(62)], peak(59), peak(60))
        self.assertEqual(answered[2:], [[i, 0] for i in range(60)] + [[-28], [-28], [0, 59, 59], [-2]])

    def test_which_refusal_goes_ahead(self):
        full = [begin(), plain()] + [tyre(0, 0, flat(0))] * 60
        self.assertEqual(last(begin(), tyre(0, 8, [])), [-2])
        self.assertEqual(last(*full, tyre(1, 0, flat(0))), [-2])
        self.assertEqual(last(*full, tyre(1, 8, [])), [-2])
        self.assertEqual(last(*full, tyre(0, 8, flat(0))), [-22])
        self.assertEqual(last(*full, tyre(0, 0, flat(2001))), [-22])
        self.assertEqual(last(*full, tyre(0, 0, [])), [-22])

    def test_a_refused_one_is_not_kept(self):
        for wrong in (tyre(1, 0, flat(0)), tyre(0, 8, flat(0)), tyre(0, 0, [])):
            answered = ask(begin(), plain(), wrong, peak(0), tyre(0, 0, spike(4)), peak(0))
            self.assertEqual(answered[3:], [[-2], [0, 0], [4, 4, 0]])


class PeakAndStep(unittest.TestCase):
    def asked(self, points, *machines):
        return ask(begin(), *(machines or [plain()]), tyre(0, 0, points), peak(0), step(0))[3:]

    def test_ordinary(self):
        self.assertEqual(self.asked([5, 9, 4, 4, 20, 18, 30, 12, 11, 10, 9, 8]), [[26, 30, 4], [18]])

    def test_the_step_from_the_last_point_to_the_first(self):
        self.assertEqual(self.asked([0, 1, 2, 3, 4, 5, 6, 7, 8, 9, 10, 11]), [[11, 11, 0], [11]])
        self.assertEqual(self.asked([11, 10, 9, 8, 7, 6, 5, 4, 3, 2, 1, 0]), [[11, 11, 0], [11]])

    def test_steps_up_and_down(self):
        self.assertEqual(self.asked([0, 3, 6, 9, 12, 15, 18, 21, 24, 12, 6, 3])[1], [12])
        self.assertEqual(self.asked([0, 12, 24, 21, 18, 15, 12, 9, 6, 3, 3, 3])[1], [12])

    def test_the_last_two_points(self):
        self.assertEqual(self.asked([0, 0, 0, 0, 0, 0, 0, 0, 0, 2, 4, 2])[1], [2])
        self.assertEqual(self.asked([3, 2, 1, 0, 0, 0, 0, 0, 0, 0, 0, 4])[1], [4])

    def test_all_points_alike(self):
        self.assertEqual(self.asked(flat(0)), [[0, 0, 0], [0]])
        self.assertEqual(self.asked(flat(2000)), [[0, 2000, 2000], [0]])

    def test_below_nought(self):
        self.assertEqual(self.asked(spike(30, 4), lowering(50)), [[30, -20, -50], [30]])
        self.assertEqual(self.asked(spike(80, 4), lowering(50)), [[80, 30, -50], [80]])

    def test_the_greatest_there_is(self):
        answered = ask(begin(), [2, 24] + [2000, 0] * 6 + [0, 2000] * 6, tyre(0, 0, [2000, 0] * 6), peak(0), step(0))
        self.assertEqual(answered[3:], [[6000, 4000, -2000], [6000]])

    def test_no_such_tyre(self):
        for number in (1, 60, GREATEST):
            self.assertEqual(ask(begin(), plain(), tyre(0, 0, flat(0)), peak(number), step(number))[3:], [[-2], [-2]])
        self.assertEqual(ask(begin(), peak(0), step(0)), [[0], [-2], [-2]])

    def test_each_tyre_has_its_own(self):
        answered = ask(begin(), plain(), tyre(0, 0, spike(5)), tyre(0, 0, spike(9)), peak(1), peak(0), step(1), step(0))
        self.assertEqual(answered[4:], [[9, 9, 0], [5, 5, 0], [9], [5]])


class Turn(unittest.TestCase):
    def test_the_way_it_turns(self):
        # What was at point 1 is at point 0 then: with the wheel's 40 at point 0 they make 100.
        for k in range(12):
            for at in range(12):
                answered = ask(begin(), plain(), tyre(0, 0, spike(60, at)), [6, 12] + spike(40), turn(0, k), [7, 0, 0])
                without_a_turn = answered[-1][2]
                self.assertEqual(without_a_turn, 100 if at == k else 60)

    def test_the_grade_that_it_had(self):
        # 60 at point 0 has a wave of 10, at point 1 one of 9.
        answered = ask(begin(), grade(2000, 2000, 9), plain(), tyre(0, 0, spike(60)), turn(0, 11), turn(0, 1),
                       turn(0, 0))
        self.assertEqual(answered[3:], [[0, 0], [0], [1], [0]])

    def test_later_grades(self):
        answered = ask(begin(), grade(0, 0, 0), grade(9, 9, 9), plain(), tyre(0, 0, spike(5)), turn(0, 4))
        self.assertEqual(answered[-1], [2])

    def test_eleven_and_above(self):
        calls = [begin(), plain(), tyre(0, 0, spike(60))]
        self.assertEqual(last(*calls, turn(0, 11)), [0])
        for k in (12, 13, 24, GREATEST):
            self.assertEqual(last(*calls, turn(0, k)), [-22])

    def test_no_such_tyre(self):
        calls = [begin(), plain(), tyre(0, 0, spike(60))]
        for number in (1, GREATEST):
            self.assertEqual(last(*calls, turn(number, 0)), [-2])

    def test_no_such_tyre_goes_ahead_of_out_of_range(self):
        self.assertEqual(last(begin(), turn(0, 12)), [-2])

    def test_only_that_tyre_is_turned(self):
        answered = ask(begin(), plain(), tyre(0, 0, spike(60)), tyre(0, 0, spike(60)), [6, 12] + spike(40),
                       turn(1, 3), [7, 0, 0], [7, 1, 0])
        self.assertEqual([answer[2] for answer in answered[-2:]], [100, 60])

    def test_a_refused_turn_leaves_the_tyre(self):
        answered = ask(begin(), plain(), tyre(0, 0, spike(60)), [6, 12] + spike(40), turn(0, 13), turn(1, 1), [7, 0, 0])
        self.assertEqual(answered[-1][2], 100)


if __name__ == "__main__":
    unittest.main()
