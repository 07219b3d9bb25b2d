import doctest
import os
import time
import unittest

from tests.helper import (GREATEST, again, alarm, ask, begin, flat, grade, graded, look, lowering, machine, match,
                          mould, mount, of, peak, plain, points, spike, state, step, sums, turn, tyre, uneven, wave,
                          weight, wheel, why)
from tyresjudged.uniformity import answers

README = os.path.join(os.path.dirname(os.path.dirname(os.path.abspath(__file__))), "README.md")

UNLIKE = [[(37 * i * (j + 3) + 11 * j) % 97 for i in range(12)] for j in range(8)]

WORKS = ([begin(), grade(40, 30, 3), grade(90, 90, 20), plain(), lowering(60)]
         + [tyre(i % 2, i, UNLIKE[i]) for i in range(4)] + [wheel(UNLIKE[i]) for i in range(4, 8)])

EACH = [grade(50, 50, 50), machine(flat(7), flat(3)), tyre(1, 5, UNLIKE[6]), again(2, 1, UNLIKE[7]), turn(3, 4),
        wheel(spike(8)), mount(1, 2), match([0, 1, 2, 3], [3, 2, 1, 0]), weight(2), peak(0), step(0), wave(1), graded(0),
        why(0, 1), of(1), mould(2), uneven(), alarm(3, 1), look(3), points(2), sums(), state()]

REFUSED = [
    grade(2001, 0, 0),
    machine(flat(0), flat(0)[1:]),
    tyre(2, 0, flat(1)),
    tyre(0, 8, flat(1)),
    tyre(0, 0, flat(2001)),
    again(4, 0, flat(1)),
    again(0, 2, flat(1)),
    again(0, 0, [1] * 11),
    turn(4, 1),
    turn(0, 12),
    wheel([1] * 13),
    mount(4, 0),
    mount(0, 4),
    match([0, 0], [0, 1]),
    match([0, 4], [0, 1]),
    match([], []),
    weight(4),
    peak(4),
    step(4),
    wave(4),
    graded(4),
    graded(2),
    why(4, 0),
    why(0, 2),
    of(2),
    mould(8),
    alarm(8, 1),
    alarm(0, 0),
    alarm(0, 2),
    look(4),
    points(4),
]

# All that there is to be seen of the works.
SEEN = ([sums(), state(), uneven()] + [points(t) for t in range(6)] + [look(t) for t in range(6)]
        + [mould(m) for m in range(8)] + [of(g) for g in range(4)] + [alarm(m, 1) for m in range(8)]
        + [why(t, g) for t in range(6) for g in range(4)])


def joined(*calls):
    return [number for call in calls for number in call]


class TheList(unittest.TestCase):
    def test_counts_stand_ahead_of_what_is_answered(self):
        calls = joined(begin(), plain(), tyre(0, 0, spike(60)), peak(0), step(0), peak(1))
        self.assertEqual(answers(calls), [1, 0, 1, 0, 2, 0, 0, 3, 60, 60, 0, 1, 60, 1, -2])

    def test_one_call(self):
        self.assertEqual(answers([0]), [1, 0])
        self.assertEqual(answers([8, 0]), [1, -11])

    def test_lists_of_thirty_are_read_whole(self):
        for listed in ([2, 30], [3, 0, 0, 30], [4, 0, 0, 30], [6, 30], [8, 30]):
            for number in (0, 11, GREATEST):
                self.assertEqual(answers([0] + listed + [number] * 30 + [0])[-2:], [1, 0])
                self.assertEqual(answers(listed + [number] * 30 + [0]), [1, -11, 1, 0])

    def test_empty_lists(self):
        for listed in ([2, 0], [6, 0], [8, 0]):
            self.assertEqual(answers([0] + listed + [0]), [1, 0, 1, -22, 1, 0])
        for listed in ([3, 0, 0, 0], [4, 0, 0, 0]):
            self.assertEqual(answers([0] + listed + [0]), [1, 0, 1, -2, 1, 0])

    def test_the_greatest_arguments(self):
        great = GREATEST
        calls = [begin(), plain(), grade(great, great, great), tyre(great, great, flat(great)),
                 tyre(0, great, flat(great)), again(great, great, flat(great)), turn(great, great), wheel(flat(great)),
                 mount(great, great), match([great], [great]), weight(great), peak(great), step(great),
                 wave(great), graded(great), why(great, great), of(great), mould(great), alarm(great, great),
                 alarm(0, great), look(great), points(great), tyre(0, 0, flat(0)), turn(0, great), why(0, great)]
        self.assertEqual(ask(*calls), [[0], [0], [-22], [-2], [-22], [-2], [-2], [-22], [-2], [-2], [-2], [-2], [-2],
                                       [-2], [-2], [-2], [-2], [-22], [-22], [-12], [-2], [-2], [0, 0], [-22], [-2]])

    def test_whole_numbers_only(self):
        answered = answers(joined(*WORKS, *EACH, *REFUSED))
        self.assertEqual(sorted({kind.__name__ for kind in map(type, answered)}), ["int"])
        self.assertIsInstance(answered, list)


class NothingIsKept(unittest.TestCase):
    def test_what_is_handed_in_is_as_it_was(self):
        calls = joined(*WORKS, *EACH, *REFUSED, begin(), *WORKS, *EACH)
        before = list(calls)
        answers(calls)
        self.assertEqual(calls, before)

    def test_twice_the_same(self):
        calls = joined(*WORKS, *EACH, *REFUSED)
        first = answers(calls)
        kept = list(first)
        self.assertEqual(answers(calls), kept)
        self.assertEqual(first, kept)

    def test_what_is_given_back_is_the_caller_s_own(self):
        calls = joined(*WORKS, *EACH)
        first = answers(calls)
        kept = list(first)
        first.clear()
        self.assertEqual(answers(calls), kept)

    def test_each_list_has_a_new_object(self):
        answers(joined(*WORKS))
        self.assertEqual(ask(peak(0)), [[-11]])
        self.assertEqual(ask(begin(), peak(0), tyre(0, 0, flat(0))), [[0], [-2], [-2]])


class WhatIsRefused(unittest.TestCase):
    def test_it_is_one_number_below_nought(self):
        for call in REFUSED:
            answered = ask(*WORKS, call)[-1]
            self.assertEqual(len(answered), 1, call)
            self.assertLess(answered[0], 0, call)

    def test_it_changes_nothing(self):
        told = SEEN + EACH + SEEN + [mount(t, w) for t in range(5) for w in range(5)] + [weight(t) for t in range(5)]
        as_it_was = ask(*WORKS, *told)[len(WORKS):]
        for call in REFUSED:
            self.assertEqual(ask(*WORKS, call, *told)[len(WORKS) + 1:], as_it_was, call)

    def test_it_changes_nothing_where_all_is_full(self):
        full = ([begin()] + [grade(i, i, i) for i in range(4)] + [plain()] * 3
                + [tyre(0, 0, UNLIKE[i % 8]) for i in range(60)] + [wheel(UNLIKE[i % 8]) for i in range(10)])
        told = [mount(t, w) for t in (0, 59, 60) for w in (0, 9, 10)] + [turn(0, 0), again(0, 2, flat(0)),
                                                                        again(0, 3, flat(0)), peak(0)]
        told = told + SEEN
        as_it_was = ask(*full, *told)[len(full):]
        for call in (grade(2000, 2000, 2000), machine(flat(9), flat(0)), tyre(0, 0, flat(9)), wheel(flat(9))):
            answered = ask(*full, call, *told)[len(full):]
            self.assertEqual(answered, [[-28]] + as_it_was)


class FourHundredCalls(unittest.TestCase):
    def assert_soon(self, calls):
        self.assertLessEqual(len(calls), 400)
        numbers = joined(*calls)
        self.assertLessEqual(len(numbers), 14000)
        started = time.monotonic()
        answered = answers(numbers)
        self.assertLess(time.monotonic() - started, 10)
        return answered

    def test_match(self):
        calls = WORKS + [match([0, 1, 2, 3], [3, 2, 1, 0])] * (400 - len(WORKS))
        self.assertEqual(len(calls), 400)
        self.assertEqual(self.assert_soon(calls)[-6], 5)

    def test_weight(self):
        calls = WORKS + [weight(3)] * (400 - len(WORKS))
        self.assertEqual(self.assert_soon(calls)[-4], 3)

    def test_match_and_weight_by_turns(self):
        more = 400 - len(WORKS)
        calls = WORKS + [weight(1) if i % 2 else match([3, 2, 1, 0], [0, 1, 2, 3]) for i in range(more)]
        self.assert_soon(calls)

    def test_begins(self):
        self.assertEqual(self.assert_soon([begin()] * 400), [1, 0] * 400)

    def test_the_longest_lists(self):
        # 399 calls with 34 numbers each.
        self.assertEqual(self.assert_soon([begin()] + [tyre(0, 0, [GREATEST] * 30)] * 399), [1, 0] + [1, -2] * 399)

    def test_all_calls_with_sixty_tyres(self):
        full = ([begin()] + [grade(i, 20 * i, 9 * i) for i in range(4)] + [plain(), lowering(60), lowering(2000)]
                + [tyre(i % 3, i % 8, UNLIKE[i % 8]) for i in range(60)] + [wheel(UNLIKE[i % 8]) for i in range(10)])
        calls = full + (EACH * 20)[:399 - len(full)] + [state()]
        self.assertEqual(len(calls), 400)
        self.assertEqual(sorted({call[0] for call in calls}), list(range(23)))
        self.assertEqual(self.assert_soon(calls)[-5:], [4, 60, 4, 3, 10])

    def test_all_calls_with_a_begin_among_them(self):
        calls = (WORKS + EACH + SEEN + REFUSED + [begin()]) * 4
        self.assert_soon(calls[:400])

    def test_what_goes_through_all_tyres(self):
        full = ([begin()] + [grade(0, 0, 0)] * 4 + [machine([2000, 0] * 6, [0, 2000] * 6)]
                + [tyre(0, 5, [2000, 0, 0] * 4) for i in range(60)])
        for call, answered in [(sums(), [6, 0, 60, 0, 0, 0, 0]), (of(3), [1, 0]), (alarm(5, 60), [1, 1]),
                               (mould(5), [4, 60, 360000, 6000, 60]), (uneven(), [3, 5, 360000, 60])]:
            calls = full + [call] * (400 - len(full))
            self.assertEqual(self.assert_soon(calls)[-len(answered):], answered)

    def test_again_and_turn(self):
        calls = WORKS + [again(i % 4, i % 2, UNLIKE[i % 8]) if i % 3 else turn(i % 4, i % 12)
                         for i in range(400 - len(WORKS))]
        self.assert_soon(calls)


class TheReadme(unittest.TestCase):
    def test_its_example(self):
        result = doctest.testfile(README, module_relative=False, globs={"answers": answers})
        self.assertEqual(result.failed, 0)
        self.assertGreater(result.attempted, 0)


if __name__ == "__main__":
    unittest.main()
