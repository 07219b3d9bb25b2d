"""What holds of every row, asked of many rows; each is worked out here anew from the document's words."""

import itertools
import math
import random
import unittest
from fractions import Fraction

from tests.helper import (CIRCLE, again, ask, begin, crest_of, evened, flat, grade, graded, look, lowering, machine,
                          match, mould, mount, mounted_peak, peak, peak_of, plain, points, pushes_of, rows, spike,
                          step, step_of, turn, tyre, uneven, wave, wave_of, weight, wheel, why)

TIMES = 60


def seen_wave(row, machines):
    """A wave as the calls tell it: the least most of a grade by which the tyre is of that grade."""
    low, high = 0, 2000
    while low < high:
        middle = (low + high) // 2
        calls = [begin(), grade(2000, 2000, middle)] + machines + [tyre(0, 0, row)]
        if ask(*calls)[-1][1]:
            high = middle
        else:
            low = middle + 1
    return low


class Rows(unittest.TestCase):
    def test_peak_and_step(self):
        for row in rows(1, TIMES):
            lowered = [point - 700 for point in row]
            answered = ask(begin(), lowering(700), tyre(0, 0, row), peak(0), step(0))
            self.assertEqual(answered[3:], [[peak_of(row), max(lowered), min(lowered)], [step_of(row)]])

    def test_turned_it_is_the_same_tyre(self):
        for row in rows(2, TIMES):
            for k in range(12):
                answered = ask(begin(), plain(), tyre(0, 0, row), peak(0), step(0), turn(0, k), peak(0), step(0))
                self.assertEqual(answered[3:5], answered[6:8])

    def test_all_lifted_alike_peak_step_and_wave_stay(self):
        for row in rows(3, TIMES):
            as_it_is = ask(begin(), plain(), tyre(0, 0, row), peak(0), step(0), wave(0))[3:]
            for machines in ([machine(flat(150), flat(0))], [lowering(1)], [lowering(2000)]):
                answered = ask(begin(), *machines, tyre(0, 0, row), peak(0), step(0), wave(0))[3:]
                self.assertEqual(answered[0][0], as_it_is[0][0])
                self.assertEqual(answered[1:], as_it_is[1:])

    def test_half_round_the_wave_is_turned_about(self):
        for row in rows(4, TIMES):
            answered = ask(begin(), lowering(40), tyre(0, 0, row), wave(0), weight(0), turn(0, 6), wave(0), weight(0))
            before, after = answered[3], answered[6]
            self.assertEqual(after[0], before[0])
            self.assertEqual(after[2:], [-before[2], -before[3]])
            self.assertEqual(answered[7][0], answered[4][0])
            self.assertEqual(answered[7][2], answered[4][2])

    def test_half_round_the_crest_is_opposite(self):
        for row in rows(15, TIMES):
            across, upwards = pushes_of(row)
            heights = [across * CIRCLE[i] + upwards * CIRCLE[(i + 9) % 12] for i in range(12)]
            if heights.count(max(heights)) == 1:
                answered = ask(begin(), plain(), tyre(0, 0, row), wave(0), turn(0, 6), wave(0))
                self.assertEqual(answered[5][1], (answered[3][1] + 6) % 12)

    def test_the_wave_and_its_crest(self):
        for row in rows(16, 4 * TIMES):
            across, upwards = pushes_of(row)
            for machines in ([plain()], [lowering(2000)]):
                answered = ask(begin(), *machines, tyre(0, 0, row), wave(0))
                self.assertEqual(answered[-1], [wave_of(row), crest_of(row), across, upwards])

    def test_on_whatever_machine_the_master_is_as_it_truly_is(self):
        for true, measured in zip(rows(17, TIMES), reversed(rows(18, TIMES))):
            answered = ask(begin(), plain(), machine(true, measured), tyre(1, 0, measured), points(0), tyre(0, 0, true),
                           again(1, 1, measured), points(1))
            self.assertEqual(answered[4], [12] + true)
            self.assertEqual(answered[7], [12] + true)


class Moulds(unittest.TestCase):
    def test_no_mould_is_more_uneven_on_the_mean(self):
        source = random.Random(19)
        for time in range(TIMES):
            size = source.randint(1, 40)
            # Few peaks and few moulds, so that means are often alike.
            peaks = [source.randint(0, (3, 40, 2000)[time % 3]) for i in range(size)]
            moulds = [source.randint(0, (7, 3, 7)[time % 3]) for i in range(size)]
            means = []
            for number in range(8):
                own = [peaks[i] for i in range(size) if moulds[i] == number]
                if own:
                    means.append((Fraction(sum(own), len(own)), -number, sum(own), len(own)))
            mean, number, together, many = max(means)
            calls = [tyre(0, moulds[i], spike(peaks[i], i % 12)) for i in range(size)]
            answered = ask(begin(), lowering(1000), *calls, uneven(), *[mould(m) for m in range(8)])
            self.assertEqual(answered[-9], [-number, together, many])
            for m in range(8):
                own = [peaks[i] for i in range(size) if moulds[i] == m]
                self.assertEqual(answered[m - 8], [len(own), sum(own), max(own, default=0), len(own)])


class Grades(unittest.TestCase):
    def test_the_first_grade_whose_limits_it_keeps(self):
        source = random.Random(5)
        for row in rows(6, 4 * TIMES):
            near = [peak_of(row), step_of(row), wave_of(row)]
            mosts = []
            for number in range(4):
                mosts.append([min(2000, max(0, most + source.randint(-1, 3))) for most in near])
            keeping = [number for number in range(4) if all(near[i] <= mosts[number][i] for i in range(3))]
            answered = ask(begin(), *[grade(*most) for most in mosts], plain(), tyre(0, 0, row), look(0), graded(0),
                           *[why(0, number) for number in range(4)])
            and_one = keeping[0] + 1 if keeping else 0
            self.assertEqual(answered[6:9], [[0, and_one], [0, and_one], [and_one - 1 if keeping else -33]])
            for number in range(4):
                above = [i + 1 for i in range(3) if near[i] > mosts[number][i]]
                self.assertEqual(answered[9 + number], [above[0] if above else 0])

    def test_the_wave(self):
        for row in rows(7, 24):
            self.assertEqual(seen_wave(row, [plain()]), wave_of(row))


class Again(unittest.TestCase):
    def test_half_of_both_together(self):
        old_rows, new_rows = rows(8, TIMES), rows(9, TIMES)
        true, measured = rows(10, 2)
        for old, new in zip(old_rows, new_rows):
            half = []
            for i in range(12):
                half.append(math.floor((old[i] - 900 + new[i] + true[i] - measured[i]) / 2))
            answered = ask(begin(), lowering(900), machine(true, measured), tyre(0, 0, old), again(0, 1, new), peak(0),
                           step(0), points(0))
            self.assertEqual(answered[5:], [[peak_of(half), max(half), min(half)], [step_of(half)], [12] + half])


class Fitting(unittest.TestCase):
    def test_by_no_turn_are_tyre_and_wheel_evener(self):
        for row, other in zip(rows(11, 4 * TIMES), reversed(rows(12, 4 * TIMES))):
            peaks = [mounted_peak(row, other, k) for k in range(12)]
            answered = ask(begin(), plain(), tyre(0, 0, row), wheel(other), mount(0, 0))
            self.assertEqual(answered[-1], [peaks.index(min(peaks)), min(peaks), peaks[0]])

    def test_by_no_way_is_the_most_uneven_one_evener(self):
        source = random.Random(13)
        for time in range(2 * TIMES):
            size = source.randint(1, 4)
            tyre_rows, wheel_rows = rows(100 + time, 8)[time % 4::4] * 3, rows(900 + time, 8)[time % 4::4] * 3
            tyres, wheels = source.sample(range(6), size), source.sample(range(6), size)
            ways = []
            for place, way in enumerate(itertools.permutations(wheels)):
                worst = max(evened(tyre_rows[tyres[i]], wheel_rows[way[i]]) for i in range(size))
                ways.append((worst, place, list(way)))
            worst, place, way = min(ways)
            answered = ask(begin(), plain(), *[tyre(0, 0, row) for row in tyre_rows],
                           *[wheel(row) for row in wheel_rows], match(tyres, wheels))
            self.assertEqual(answered[-1], [worst] + way)

    def test_by_no_weight_is_less_left(self):
        for row in rows(14, 4 * TIMES):
            across, upwards = pushes_of(row)
            choices = []
            for heavy in range(0, 61, 5):
                for point in range(12):
                    left = (across + heavy * CIRCLE[point]) ** 2 + (upwards + heavy * CIRCLE[(point + 9) % 12]) ** 2
                    choices.append((left, heavy, point))
            left, heavy, point = min(choices)
            answered = ask(begin(), lowering(33), tyre(0, 0, row), weight(0))
            self.assertEqual(answered[-1], [heavy, point, left])


if __name__ == "__main__":
    unittest.main()
