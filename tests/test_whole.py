"""Drawn lists over all calls, beside a second works that is written down from the document's words alone."""

import itertools
import random
import unittest
from fractions import Fraction

from tests.helper import (CIRCLE, GREATEST, again, alarm, ask, begin, crest_of, evened, grade, graded, look, machine,
                          match, mould, mounted_peak, mount, of, peak, peak_of, points, pushes_of, state, step,
                          step_of, sums, turn, tyre, uneven, wave, wave_of, weight, wheel, why)


class Refused(Exception):
    pass


def need(number, *conditions):
    if not all(conditions):
        raise Refused(number)


def measured(row):
    return len(row) == 12 and all(point <= 2000 for point in row)


class SecondWorks:
    """Each call is a method of its name; it answers a list, or raises Refused."""

    def __init__(self):
        self.begun = False

    def call(self, name, arguments):
        try:
            need(-11, self.begun or name == "begin")
            return getattr(self, name)(*arguments)
        except Refused as refused:
            return [refused.args[0]]

    def begin(self):
        self.begun = True
        self.grades, self.machines, self.tyres, self.wheels = [], [], [], []
        return [0]

    def row(self, t):
        need(-2, t < len(self.tyres))
        return self.tyres[t][1]

    def keeps(self, row, g):
        return all(value <= most for value, most in zip((peak_of(row), step_of(row), wave_of(row)), self.grades[g]))

    def grade_of(self, t):
        return next((g for g in range(len(self.grades)) if self.keeps(self.row(t), g)), None)

    def and_one(self, t):
        found = self.grade_of(t)
        return 0 if found is None else found + 1

    def truly(self, k, row):
        true, measured_then = self.machines[k]
        return [point + plus - minus for point, plus, minus in zip(row, true, measured_then)]

    def grade(self, p, j, w):
        need(-22, max(p, j, w) <= 2000)
        need(-28, len(self.grades) < 4)
        self.grades.append((p, j, w))
        return [len(self.grades) - 1]

    def machine(self, true, then):
        both = true + then
        need(-22, len(both) == 24, all(point <= 2000 for point in both))
        need(-28, len(self.machines) < 3)
        self.machines.append((both[:12], both[12:]))
        return [len(self.machines) - 1]

    def tyre(self, k, m, row):
        need(-2, k < len(self.machines))
        need(-22, m <= 7, measured(row))
        need(-28, len(self.tyres) < 60)
        self.tyres.append([m, self.truly(k, row)])
        return [len(self.tyres) - 1, self.and_one(len(self.tyres) - 1)]

    def again(self, t, k, row):
        need(-2, t < len(self.tyres), k < len(self.machines))
        need(-22, measured(row))
        both = zip(self.row(t), self.truly(k, row))
        self.tyres[t][1] = [(one + other - (one + other) % 2) // 2 for one, other in both]
        return [self.and_one(t)]

    def turn(self, t, k):
        row = self.row(t)
        need(-22, k <= 11)
        before = self.and_one(t)
        self.tyres[t][1] = [row[(i + k) % 12] for i in range(12)]
        return [before]

    def wheel(self, row):
        need(-22, measured(row))
        need(-28, len(self.wheels) < 10)
        self.wheels.append(row)
        return [len(self.wheels) - 1]

    def mount(self, t, w):
        need(-2, t < len(self.tyres), w < len(self.wheels))
        peaks = [mounted_peak(self.row(t), self.wheels[w], k) for k in range(12)]
        return [peaks.index(min(peaks)), min(peaks), peaks[0]]

    def match(self, tyres, wheels):
        both = tyres + wheels
        half = len(both) // 2
        need(-22, len(both) in (2, 4, 6, 8))
        tyres, wheels = both[:half], both[half:]
        need(-22, len(set(tyres)) == half, len(set(wheels)) == half)
        need(-2, all(t < len(self.tyres) for t in tyres), all(w < len(self.wheels) for w in wheels))
        worsts = []
        for place, way in enumerate(itertools.permutations(wheels)):
            worsts.append((max(evened(self.row(t), self.wheels[w]) for t, w in zip(tyres, way)), place, way))
        worst, place, way = min(worsts)
        return [worst, *way]

    def weight(self, t):
        across, upwards = pushes_of(self.row(t))
        ways = []
        for heavy in range(0, 61, 5):
            for point in range(12):
                left = (across + heavy * CIRCLE[point]) ** 2 + (upwards + heavy * CIRCLE[(point + 9) % 12]) ** 2
                ways.append((left, heavy, point))
        left, heavy, point = min(ways)
        return [heavy, point, left]

    def peak(self, t):
        return [peak_of(self.row(t)), max(self.row(t)), min(self.row(t))]

    def step(self, t):
        return [step_of(self.row(t))]

    def wave(self, t):
        return [wave_of(self.row(t)), crest_of(self.row(t)), *pushes_of(self.row(t))]

    def graded(self, t):
        self.row(t)
        need(-33, self.grade_of(t) is not None)
        return [self.grade_of(t)]

    def why(self, t, g):
        need(-2, t < len(self.tyres), g < len(self.grades))
        p, j, w = self.grades[g]
        if peak_of(self.row(t)) > p:
            return [1]
        if step_of(self.row(t)) > j:
            return [2]
        return [3] if wave_of(self.row(t)) > w else [0]

    def having(self, g):
        return [t for t in range(len(self.tyres)) if self.grade_of(t) == g]

    def of(self, g):
        need(-2, g < len(self.grades))
        return [len(self.having(g)), *self.having(g)]

    def made_by(self, m):
        return [t for t in range(len(self.tyres)) if self.tyres[t][0] == m]

    def mould(self, m):
        need(-22, m <= 7)
        peaks = [peak_of(self.row(t)) for t in self.made_by(m)]
        return [len(peaks), sum(peaks), max([0] + peaks), len([t for t in self.made_by(m) if self.grade_of(t) is None])]

    def uneven(self):
        need(-6, self.tyres)
        means = {}
        for m in range(8):
            many, together, most, of_none = self.mould(m)
            if many:
                means[m] = Fraction(together, many)
        worst = min(m for m in means if means[m] == max(means.values()))
        return [worst, self.mould(worst)[1], self.mould(worst)[0]]

    def alarm(self, m, n):
        need(-22, m <= 7, n != 0)
        need(-12, len(self.made_by(m)) >= n)
        return [int(all(self.grade_of(t) != 0 for t in self.made_by(m)[-n:]))]

    def look(self, t):
        need(-2, t < len(self.tyres))
        return [self.tyres[t][0], self.and_one(t)]

    def points(self, t):
        return [12, *self.row(t)]

    def sums(self):
        return [0, len(self.tyres), *[len(self.having(g)) for g in range(len(self.grades))]]

    def state(self):
        return [len(self.tyres), len(self.grades), len(self.machines), len(self.wheels)]


BUILDERS = {builder.__name__: builder for builder in (
    begin, grade, machine, tyre, again, turn, wheel, mount, match, weight, peak, step, wave, graded, why, of, mould,
    uneven, alarm, look, points, sums, state)}


class Drawn:
    """Draws calls; mostly such that are right for a works that fills up, now and then wrong ones."""

    def __init__(self, seed):
        self.source = random.Random(seed)
        self.most = self.source.choice([2000, 200, 12, 2])
        self.moulds = self.source.choice([8, 3, 2])

    def wrong(self):
        return self.source.random() < 0.04

    def number(self, below, edge):
        """One below what there is of them; now and then the edge, or a great one."""
        if self.wrong() or below == 0:
            return self.source.choice([edge, edge + 1, GREATEST])
        return self.source.randrange(below)

    def row(self, size=12):
        row = [self.source.randint(0, self.most) for i in range(size)]
        if self.wrong():
            row[self.source.randrange(size)] = self.source.choice([2000, 2001, GREATEST])
        if self.wrong():
            row = (row * 3)[:self.source.choice([0, 1, size - 1, size + 1, 30])]
        return row

    def limit(self, near):
        if self.wrong():
            return self.source.choice([0, 2000, 2001, GREATEST])
        return self.source.randint(near // 3, min(2000, 2 * near))

    def several(self, below, size):
        if self.wrong() or below < size:
            return [self.source.randrange(below + 2) for i in range(size)]
        return self.source.sample(range(below), size)

    def arguments(self, name, works):
        t, w = self.number(len(works.tyres), len(works.tyres)), self.number(len(works.wheels), len(works.wheels))
        k, g = self.number(len(works.machines), len(works.machines)), self.number(len(works.grades), len(works.grades))
        m = self.number(self.moulds, 8)
        if name in ("begin", "uneven", "sums", "state"):
            return []
        if name == "grade":
            return [self.limit(self.most), self.limit(self.most), self.limit(self.most // 3 + 1)]
        if name == "match":
            size = self.source.choice([0, 1, 2, 2, 3, 3, 4, 4, 5])
            return [self.several(len(works.tyres), size), self.several(len(works.wheels), size)]
        if name == "machine":
            true = self.row()
            return [true, list(true) if self.source.random() < 0.5 else self.row()]
        if name == "alarm":
            return [m, self.source.choice([0, 1, 1, 2, 3, len(works.tyres), GREATEST])]
        return {"tyre": [k, m, self.row()], "again": [t, k, self.row()], "turn": [t, self.number(12, 12)],
                "wheel": [self.row()], "mount": [t, w], "why": [t, g], "of": [g], "mould": [m]}.get(name, [t])

    def name(self, made):
        if made < 4 and not self.wrong():
            return ["begin", "machine", "grade", "tyre"][made]
        if self.source.random() < 0.35:
            return self.source.choice(["tyre", "tyre", "tyre", "tyre", "machine", "grade", "wheel"])
        name = self.source.choice(list(BUILDERS))
        # Begins are few, so that the works fills up in between.
        return "sums" if name == "begin" and self.source.random() < 0.9 else name


def drawn(seed, size):
    """So many calls, and what the second works answers to each."""
    draw, works = Drawn(seed), SecondWorks()
    works.begin()
    works.begun = False
    calls, expected = [], []
    for made in range(size):
        name = draw.name(made)
        arguments = draw.arguments(name, works)
        calls.append(BUILDERS[name](*arguments))
        expected.append(works.call(name, arguments))
    return calls, expected


class Whole(unittest.TestCase):
    def test_many_short_lists(self):
        for seed in range(150):
            calls, expected = drawn(seed, 40)
            self.assertEqual(ask(*calls), expected, seed)

    def test_some_of_four_hundred_calls(self):
        for seed in range(500, 510):
            calls, expected = drawn(seed, 400)
            self.assertEqual(ask(*calls), expected, seed)

    def test_what_is_drawn_meets_all_calls_and_refusals(self):
        answered, refused = set(), set()
        for seed in range(150):
            for call, answer in zip(*drawn(seed, 40)):
                if answer[0] < 0:
                    refused.add(answer[0])
                else:
                    answered.add(call[0])
        self.assertEqual(answered, set(range(23)))
        self.assertEqual(refused, {-2, -6, -11, -12, -22, -28, -33})

    def test_what_is_refused_may_as_well_be_left_out(self):
        for seed in range(700, 730):
            calls, expected = drawn(seed, 60)
            kept = [i for i, answer in enumerate(expected) if answer[0] >= 0]
            self.assertEqual(ask(*[calls[i] for i in kept]), [expected[i] for i in kept], seed)


if __name__ == "__main__":
    unittest.main()
