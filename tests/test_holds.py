"""What holds of every row, asked of many rows; each is worked out here anew from the document's words."""

import itertools
import math
import random
import unittest

from tests.helper import CIRCLE, again, ask, begin, grade, lowering, machine, match, mount, peak, plain, step, turn
from tests.helper import tyre, weight, wheel

TIMES = 60


def rows(seed, size):
    """Rows of sorts: any, small ones, such with few different points."""
    source = random.Random(seed)
    made = []
    for i in range(size):
        most = (2000, 60, 3, 1)[i % 4]
        made.append([source.randint(0, most) for point in range(12)])
    return made


def peak_of(row):
    return max(row) - min(row)


def step_of(row):
    return max(abs(row[i] - row[(i + 1) % 12]) for i in range(12))


def pushes_of(row):
    across = sum(row[i] * CIRCLE[i] for i in range(12))
    upwards = sum(row[i] * CIRCLE[(i + 9) % 12] for i in range(12))
    return across, upwards


def wave_of(row):
    across, upwards = pushes_of(row)
    return math.isqrt(across ** 2 + upwards ** 2) // 6000


def mounted_peak(row, other, k):
    return peak_of([row[(i + k) % 12] + other[i] for i in range(12)])


def evened(row, other):
    return min(mounted_peak(row, other, k) for k in range(12))


def seen_wave(points, machines):
    """A wave as the calls tell it: the least most of a grade by which the tyre is of that grade."""
    low, high = 0, 2000
    while low < high:
        middle = (low + high) // 2
        calls = [begin(), grade(2000, 2000, middle)] + machines + [tyre(0, 0, points)]
        if ask(*calls)[-1][1]:
            high = middle
        else:
            low = middle + 1
    return low


class Rows(unittest.TestCase):
    def test_peak_and_step(self):
        for row in rows(1, TIMES):
            lowered = [point - 700 for point in row]
            answered = ask(begin(), lowering(700), tyre(0, 0, row), peak(0), step(0))
            self.assertEqual(answered[3:], [[peak_of(row), max(lowered), min(lowered)], [step_of(row)]])

    def test_turned_it_is_the_same_tyre(self):
        for row in rows(2, TIMES):
            for k in range(12):
                answered = ask(begin(), plain(), tyre(0, 0, row), peak(0), step(0), turn(0, k), peak(0), step(0))
                self.assertEqual(answered[3:5], answered[6:8])

    def test_all_lifted_alike_peak_step_and_wave_stay(self):
        for row in rows(3, 12):
            for machines in ([machine([150] * 12, [0] * 12)], [lowering(2000)]):
                answered = ask(begin(), *machines, tyre(0, 0, row), peak(0), step(0))
                self.assertEqual([answered[3][0], answered[4][0]], [peak_of(row), step_of(row)])
                self.assertEqual(seen_wave(row, machines), wave_of(row))

    def test_half_round_the_wave_is_turned_about(self):
        for row in rows(4, TIMES):
            answered = ask(begin(), plain(), tyre(0, 0, row), weight(0), turn(0, 6), weight(0))
            before, after = answered[3], answered[5]
            self.assertEqual(before[0], after[0])
            self.assertEqual(before[2], after[2])


class Grades(unittest.TestCase):
    def test_the_first_grade_whose_limits_it_keeps(self):
        source = random.Random(5)
        for row in rows(6, 4 * TIMES):
            near = [peak_of(row), step_of(row), wave_of(row)]
            mosts = []
            for number in range(4):
                mosts.append([min(2000, max(0, most + source.randint(-1, 3))) for most in near])
            keeping = [number for number in range(4) if all(near[i] <= mosts[number][i] for i in range(3))]
            answered = ask(begin(), *[grade(*most) for most in mosts], plain(), tyre(0, 0, row))
            self.assertEqual(answered[-1], [0, keeping[0] + 1 if keeping else 0])

    def test_the_wave(self):
        for row in rows(7, 24):
            self.assertEqual(seen_wave(row, [plain()]), wave_of(row))


class Again(unittest.TestCase):
    def test_half_of_both_together(self):
        old_rows, new_rows = rows(8, TIMES), rows(9, TIMES)
        true, measured = rows(10, 2)
        for old, new in zip(old_rows, new_rows):
            half = []
            for i in range(12):
                half.append(math.floor((old[i] - 900 + new[i] + true[i] - measured[i]) / 2))
            answered = ask(begin(), lowering(900), machine(true, measured), tyre(0, 0, old), again(0, 1, new), peak(0),
                           step(0))
            self.assertEqual(answered[5:], [[peak_of(half), max(half), min(half)], [step_of(half)]])


class Fitting(unittest.TestCase):
    def test_by_no_turn_are_tyre_and_wheel_evener(self):
        for row, other in zip(rows(11, 4 * TIMES), reversed(rows(12, 4 * TIMES))):
            peaks = [mounted_peak(row, other, k) for k in range(12)]
            answered = ask(begin(), plain(), tyre(0, 0, row), wheel(other), mount(0, 0))
            self.assertEqual(answered[-1], [peaks.index(min(peaks)), min(peaks), peaks[0]])

    def test_by_no_way_is_the_most_uneven_one_evener(self):
        source = random.Random(13)
        for time in range(2 * TIMES):
            size = source.randint(1, 4)
            tyre_rows, wheel_rows = rows(100 + time, 8)[time % 4::4] * 3, rows(900 + time, 8)[time % 4::4] * 3
            tyres, wheels = source.sample(range(6), size), source.sample(range(6), size)
            ways = []
            for place, way in enumerate(itertools.permutations(wheels)):
                worst = max(evened(tyre_rows[tyres[i]], wheel_rows[way[i]]) for i in range(size))
                ways.append((worst, place, list(way)))
            worst, place, way = min(ways)
            answered = ask(begin(), plain(), *[tyre(0, 0, row) for row in tyre_rows],
                           *[wheel(row) for row in wheel_rows], match(tyres, wheels))
            self.assertEqual(answered[-1], [worst] + way)

    def test_by_no_weight_is_less_left(self):
        for row in rows(14, 4 * TIMES):
            across, upwards = pushes_of(row)
            choices = []
            for heavy in range(0, 61, 5):
                for point in range(12):
                    left = (across + heavy * CIRCLE[point]) ** 2 + (upwards + heavy * CIRCLE[(point + 9) % 12]) ** 2
                    choices.append((left, heavy, point))
            left, heavy, point = min(choices)
            answered = ask(begin(), lowering(33), tyre(0, 0, row), weight(0))
            self.assertEqual(answered[-1], [heavy, point, left])


if __name__ == "__main__":
    unittest.main()
