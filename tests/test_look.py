import unittest

from tests.helper import (GREATEST, TENT, again, alarm, ask, begin, flat, grade, graded, last, look, lowering, machine,
                          match, mould, mount, of, peak, plain, points, spike, state, step, sums, turn, tyre, uneven,
                          wave, weight, wheel, why)

ONLY_TELLING = [mount(0, 0), match([0], [0]), weight(0), peak(0), step(0), wave(0), graded(0), why(0, 0), of(0),
                mould(0), uneven(), alarm(0, 1), look(0), points(0), sums(), state()]


class Look(unittest.TestCase):
    def test_the_mould_then_the_grade_and_one(self):
        calls = [begin(), grade(0, 0, 0), grade(60, 60, 10), plain(), tyre(0, 5, spike(60)), tyre(0, 0, flat(3)),
                 tyre(0, 7, spike(61))]
        self.assertEqual(ask(*calls, look(0), look(1), look(2))[-3:], [[5, 2], [0, 1], [7, 0]])

    def test_each_mould(self):
        for m in range(8):
            self.assertEqual(last(begin(), plain(), tyre(0, m, flat(0)), look(0)), [m, 0])

    def test_a_grade_that_comes_behind_the_tyre(self):
        answered = ask(begin(), plain(), tyre(0, 2, TENT), look(0), grade(0, 0, 0), look(0), grade(60, 10, 24), look(0))
        self.assertEqual(answered[3::2], [[2, 0], [2, 0], [2, 2]])

    def test_after_again_and_turn(self):
        # 60 has a wave of 10 at point 0, of 9 at point 11.
        answered = ask(begin(), grade(60, 60, 9), plain(), tyre(0, 4, spike(60)), look(0), turn(0, 1), look(0),
                       turn(0, 11), look(0), again(0, 0, flat(0)), look(0))
        self.assertEqual(answered[4::2], [[4, 0], [4, 1], [4, 0], [4, 1]])

    def test_no_such_tyre(self):
        self.assertEqual(last(begin(), look(0)), [-2])
        for number in (1, 60, GREATEST):
            self.assertEqual(ask(begin(), plain(), tyre(0, 6, flat(0)), look(number), look(0))[-2:], [[-2], [6, 0]])

    def test_before_a_begin(self):
        self.assertEqual(ask(look(0), begin(), look(0)), [[-11], [0], [-2]])


class Points(unittest.TestCase):
    def test_twelve_then_the_row(self):
        row = [3, 1, 4, 15, 9, 2, 6, 5, 35, 8, 97, 0]
        self.assertEqual(last(begin(), plain(), tyre(0, 0, row), points(0)), [12] + row)

    def test_corrected(self):
        true, measured = list(range(100, 112)), list(range(50, 74, 2))
        # 100 + i is added, 50 + 2 * i is taken off.
        self.assertEqual(last(begin(), machine(true, measured), tyre(0, 0, flat(7)), points(0)),
                         [12] + [57 - i for i in range(12)])

    def test_below_nought(self):
        self.assertEqual(last(begin(), lowering(50), tyre(0, 0, spike(80, 4)), points(0)),
                         [12, -50, -50, -50, -50, 30, -50, -50, -50, -50, -50, -50, -50])
        self.assertEqual(last(begin(), lowering(2000), tyre(0, 0, flat(0)), points(0)), [12] + flat(-2000))

    def test_a_machine_that_needs_no_correction(self):
        self.assertEqual(last(begin(), machine(TENT, TENT), tyre(0, 0, spike(9, 5)), points(0)), [12] + spike(9, 5))

    def test_the_master_is_as_it_truly_is(self):
        measured = [1999 - 7 * i for i in range(12)]
        self.assertEqual(last(begin(), machine(TENT, measured), tyre(0, 0, measured), points(0)), [12] + TENT)

    def test_the_greatest_and_the_least_there_are(self):
        calls = [begin(), machine(flat(2000), flat(0)), machine(flat(0), flat(2000))]
        self.assertEqual(ask(*calls, tyre(0, 0, flat(2000)), tyre(1, 0, flat(0)), points(0), points(1))[-2:],
                         [[12] + flat(4000), [12] + flat(-2000)])

    def test_after_a_turn(self):
        row = [10, 11, 12, 13, 14, 15, 16, 17, 18, 19, 20, 21]
        for k in range(12):
            self.assertEqual(last(begin(), plain(), tyre(0, 0, row), turn(0, k), points(0)),
                             [12] + row[k:] + row[:k])
        self.assertEqual(last(begin(), plain(), tyre(0, 0, row), turn(0, 5), turn(0, 9), points(0)),
                         [12] + row[2:] + row[:2])

    def test_after_again(self):
        # -1, 0 .. 10 and 0 .. 11 halved: -1 and 0 make -1, then 0 and 1 make 0, 1 and 2 make 1 ..
        calls = [begin(), lowering(1), plain(), tyre(0, 0, list(range(12))), again(0, 1, list(range(12)))]
        self.assertEqual(last(*calls, points(0)), [12] + list(range(-1, 11)))

    def test_only_that_tyre_s(self):
        calls = [begin(), plain(), tyre(0, 0, TENT), tyre(0, 0, TENT), turn(1, 6), again(0, 0, flat(0))]
        self.assertEqual(ask(*calls, points(0), points(1))[-2:],
                         [[12] + [point // 2 for point in TENT], [12] + TENT[6:] + TENT[:6]])

    def test_no_such_tyre(self):
        self.assertEqual(last(begin(), points(0)), [-2])
        for number in (1, 60, GREATEST):
            answered = ask(begin(), plain(), tyre(0, 0, TENT), points(number), points(0))
            self.assertEqual(answered[-2:], [[-2], [12] + TENT])

    def test_before_a_begin(self):
        self.assertEqual(ask(points(0), begin(), points(0)), [[-11], [0], [-2]])


class Sums(unittest.TestCase):
    def test_nothing_there_yet(self):
        self.assertEqual(last(begin(), sums()), [0, 0])

    def test_none_to_four_grades(self):
        for size in range(5):
            calls = [begin(), *[grade(10 * g, 10 * g, 10 * g) for g in range(size)], plain()]
            self.assertEqual(last(*calls, sums()), [0, 0] + [0] * size)
            # Peaks 0, 5, 10 .. 35: grade 0 has 0 alone, grade 1 has 5 and 10 ..
            calls = calls + [tyre(0, 0, spike(5 * i)) for i in range(8)]
            self.assertEqual(last(*calls, sums()), [0, 8] + [1, 2, 2, 2][:size])

    def test_each_tyre_counts_for_its_first_grade_alone(self):
        calls = [begin(), grade(9, 9, 9), grade(9, 9, 9), grade(2000, 2000, 2000), plain(), tyre(0, 0, spike(9)),
                 tyre(0, 1, spike(10)), tyre(0, 2, spike(8))]
        self.assertEqual(last(*calls, sums()), [0, 3, 2, 0, 1])

    def test_sixty(self):
        calls = [begin(), grade(0, 0, 0), grade(20, 20, 20), plain()] + [tyre(0, 0, spike(i)) for i in range(61)]
        self.assertEqual(last(*calls, sums()), [0, 60, 1, 20])

    def test_before_a_begin(self):
        self.assertEqual(ask(sums(), begin(), sums()), [[-11], [0], [0, 0]])

    def test_after_each_kind_of_call(self):
        answered = ask(begin(), sums(), plain(), sums(), wheel(flat(0)), sums(), tyre(0, 0, spike(60)), sums(),
                       grade(60, 60, 9), sums(), grade(60, 60, 10), sums(), turn(0, 1), sums(),
                       again(0, 0, spike(70, 11)), sums(), begin(), sums())
        self.assertEqual(answered[1::2], [[0, 0], [0, 0], [0, 0], [0, 1], [0, 1, 0], [0, 1, 0, 1], [0, 1, 1, 0],
                                          [0, 1, 0, 0], [0, 0]])


class State(unittest.TestCase):
    def test_nothing_there_yet(self):
        self.assertEqual(last(begin(), state()), [0, 0, 0, 0])

    def test_after_each_kind_of_call(self):
        answered = ask(begin(), state(), grade(1, 1, 1), state(), plain(), state(), plain(), state(), wheel(flat(0)),
                       state(), tyre(1, 0, spike(60)), state(), again(0, 0, flat(0)), state(), turn(0, 3), state(),
                       wheel(flat(0)), state(), wheel(flat(0)), state(), begin(), state())
        self.assertEqual(answered[1::2], [[0, 0, 0, 0], [0, 1, 0, 0], [0, 1, 1, 0], [0, 1, 2, 0], [0, 1, 2, 1],
                                          [1, 1, 2, 1], [1, 1, 2, 1], [1, 1, 2, 1], [1, 1, 2, 2], [1, 1, 2, 3],
                                          [0, 0, 0, 0]])

    def test_all_full(self):
        full = ([begin()] + [grade(1, 1, 1)] * 5 + [plain()] * 4 + [wheel(flat(0))] * 11
                + [tyre(0, 0, flat(0))] * 61)
        self.assertEqual(last(*full, state()), [60, 4, 3, 10])

    def test_before_a_begin(self):
        self.assertEqual(ask(state(), begin(), state()), [[-11], [0], [0, 0, 0, 0]])

    def test_calls_that_only_tell_change_nothing(self):
        calls = [begin(), grade(2000, 2000, 2000), plain(), wheel(TENT), tyre(0, 0, TENT)]
        for call in ONLY_TELLING:
            answered = ask(*calls, call, call, state(), sums(), points(0))[5:]
            self.assertEqual(answered[0], answered[1])
            self.assertEqual(answered[2:], [[1, 1, 1, 1], [0, 1, 1], [12] + TENT])


if __name__ == "__main__":
    unittest.main()
