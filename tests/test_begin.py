import unittest

from tests.helper import (GREATEST, again, alarm, ask, begin, flat, grade, graded, last, look, machine, match, mould,
                          mount, of, peak, plain, points, spike, state, step, sums, turn, tyre, uneven, wave, weight,
                          wheel, why)

OTHERS = [
    grade(1, 2, 3),
    machine(flat(1), flat(2)),
    tyre(0, 0, flat(1)),
    again(0, 0, flat(1)),
    turn(0, 1),
    wheel(flat(1)),
    mount(0, 0),
    match([0], [0]),
    weight(0),
    peak(0),
    step(0),
    wave(0),
    graded(0),
    why(0, 0),
    of(0),
    mould(0),
    uneven(),
    alarm(0, 1),
    look(0),
    points(0),
    sums(),
    state(),
]


class BeforeABegin(unittest.TestCase):
    def test_each_other_call_is_refused(self):
        for call in OTHERS:
            with self.subTest(call=call):
                self.assertEqual(ask(call), [[-11]])

    def test_one_behind_another(self):
        self.assertEqual(ask(*OTHERS), [[-11]] * 22)
        for call in OTHERS:
            self.assertEqual(ask(call, begin()), [[-11], [0]])

    def test_not_begun_goes_ahead_of_every_other_refusal(self):
        wrong = [
            grade(2001, 0, 0),
            machine([], []),
            tyre(9, 9, []),
            again(9, 9, []),
            turn(9, 12),
            wheel([2001] * 30),
            mount(9, 9),
            match([1, 1], [2, 2]),
            match([], []),
            weight(9),
            peak(9),
            step(9),
            wave(9),
            graded(9),
            why(9, 9),
            of(9),
            mould(8),
            alarm(8, 0),
            alarm(0, GREATEST),
            look(9),
            points(9),
        ]
        for call in wrong:
            with self.subTest(call=call):
                self.assertEqual(ask(call), [[-11]])

    def test_what_is_refused_is_not_there_after_the_begin(self):
        answered = ask(grade(9, 9, 9), plain(), wheel(flat(0)), begin(),
                       tyre(0, 0, flat(0)), grade(0, 0, 0), plain(), wheel(flat(0)),
                       tyre(0, 0, spike(5)), peak(0))
        self.assertEqual(answered[:4], [[-11], [-11], [-11], [0]])
        self.assertEqual(answered[4:], [[-2], [0], [0], [0], [0, 0], [5, 5, 0]])
        self.assertEqual(last(*OTHERS, begin(), state()), [0, 0, 0, 0])


class Begin(unittest.TestCase):
    def test_answers_nought(self):
        self.assertEqual(ask(begin()), [[0]])
        self.assertEqual(ask(begin(), begin(), begin()), [[0], [0], [0]])

    def setUp(self):
        self.filled = [begin(), grade(5, 5, 5), plain(), tyre(0, 3, flat(7)), wheel(flat(0))]

    def test_a_second_one_leaves_no_tyre(self):
        for call in [turn(0, 0), weight(0), peak(0), step(0), wave(0), graded(0), look(0), points(0)]:
            self.assertEqual(last(*self.filled, begin(), call), [-2])
        self.assertEqual(ask(*self.filled, begin(), mould(3), uneven(), alarm(3, 1), sums(), state())[6:],
                         [[0, 0, 0, 0], [-6], [-12], [0, 0], [0, 0, 0, 0]])
        self.assertEqual(last(*self.filled, begin(), plain(), again(0, 0, flat(1))), [-2])
        self.assertEqual(last(*self.filled, begin(), wheel(flat(1)), mount(0, 0)), [-2])

    def test_a_second_one_leaves_no_machine(self):
        self.assertEqual(last(*self.filled, begin(), tyre(0, 0, flat(1))), [-2])

    def test_a_second_one_leaves_no_wheel(self):
        calls = self.filled + [begin(), plain(), tyre(0, 0, flat(1))]
        self.assertEqual(last(*calls, mount(0, 0)), [-2])
        self.assertEqual(last(*calls, match([0], [0])), [-2])

    def test_a_second_one_leaves_no_grade(self):
        self.assertEqual(last(*self.filled, begin(), plain(), tyre(0, 0, flat(7))), [0, 0])
        self.assertEqual(last(*self.filled, begin(), of(0)), [-2])
        self.assertEqual(last(*self.filled, begin(), plain(), tyre(0, 0, flat(7)), why(0, 0)), [-2])

    def test_numbers_begin_at_nought_again(self):
        self.assertEqual(ask(*self.filled, begin(), *self.filled[1:])[5:], [[0], [0], [0], [0, 1], [0]])

    def test_all_may_be_filled_again(self):
        full = [begin()] + [grade(0, 0, 0)] * 4 + [plain()] * 3 + [wheel(flat(0))] * 10
        again_full = ask(*full, *full)[len(full):]
        self.assertEqual(again_full, [[0]] + [[i] for i in range(4)] + [[i] for i in range(3)]
                         + [[i] for i in range(10)])


if __name__ == "__main__":
    unittest.main()
