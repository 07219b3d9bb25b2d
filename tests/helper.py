"""Builds lists of calls, takes the answers apart call by call, and works rows out anew from the document."""

import math
import random

from tyresjudged.uniformity import answers

GREATEST = 4294967295

CIRCLE = [1000, 866, 500, 0, -500, -866, -1000, -866, -500, 0, 500, 866]

# Peak 60, greatest step 10. Across is 17320 + 20000 - 40000 - 86600 - 60000 = -149280,
# upwards is 0, so the wave is 149280 // 6000 = 24.
TENT = [0, 10, 20, 30, 40, 50, 60, 50, 40, 30, 20, 10]


def begin():
    return [0]


def grade(p, j, w):
    return [1, p, j, w]


def machine(true, measured):
    return [2, len(true) + len(measured)] + true + measured


def tyre(k, m, row):
    return [3, k, m, len(row)] + row


def again(t, k, row):
    return [4, t, k, len(row)] + row


def turn(t, k):
    return [5, t, k]


def wheel(row):
    return [6, len(row)] + row


def mount(t, w):
    return [7, t, w]


def match(tyres, wheels):
    return [8, len(tyres) + len(wheels)] + tyres + wheels


def weight(t):
    return [9, t]


def peak(t):
    return [10, t]


def step(t):
    return [11, t]


def wave(t):
    return [12, t]


def graded(t):
    return [13, t]


def why(t, g):
    return [14, t, g]


def of(g):
    return [15, g]


def mould(m):
    return [16, m]


def uneven():
    return [17]


def alarm(m, n):
    return [18, m, n]


def look(t):
    return [19, t]


def points(t):
    return [20, t]


def sums():
    return [21]


def state():
    return [22]


def flat(value):
    return [value] * 12


def spike(value, point=0):
    """A row that is 0 but at one point."""
    return [value if i == point else 0 for i in range(12)]


def plain():
    """A machine that needs no correction."""
    return machine(flat(0), flat(0))


def lowering(amount):
    """A machine that measures so much too high at every point."""
    return machine(flat(0), flat(amount))


def ask(*calls):
    """The answers to these calls, a list for each."""
    numbers = [number for call in calls for number in call]
    given = list(numbers)
    answered = answers(numbers)
    assert numbers == given, "the list that was handed in is changed"
    apart = []
    at = 0
    while at < len(answered):
        size = answered[at]
        apart.append(answered[at + 1:at + 1 + size])
        assert len(apart[-1]) == size, "a count is more than what is behind it"
        at += 1 + size
    assert len(apart) == len(calls), "there is not one answer for each call"
    return apart


def last(*calls):
    return ask(*calls)[-1]


def with_tyre(row, *calls):
    """The answers to calls behind a begin, a plain machine and one tyre (0)."""
    return ask(begin(), plain(), tyre(0, 0, row), *calls)[3:]


def rows(seed, size):
    """Rows of sorts: any, small ones, such with few different points."""
    source = random.Random(seed)
    made = []
    for i in range(size):
        most = (2000, 60, 3, 1)[i % 4]
        made.append([source.randint(0, most) for point in range(12)])
    return made


def peak_of(row):
    return max(row) - min(row)


def step_of(row):
    return max(abs(row[i] - row[(i + 1) % 12]) for i in range(12))


def pushes_of(row):
    """Across and upwards."""
    across = sum(row[i] * CIRCLE[i] for i in range(12))
    upwards = sum(row[i] * CIRCLE[(i + 9) % 12] for i in range(12))
    return across, upwards


def wave_of(row):
    across, upwards = pushes_of(row)
    return math.isqrt(across ** 2 + upwards ** 2) // 6000


def crest_of(row):
    across, upwards = pushes_of(row)
    heights = [(across * CIRCLE[i] + upwards * CIRCLE[(i + 9) % 12], -i) for i in range(12)]
    return -max(heights)[1]


def mounted_peak(row, other, k):
    return peak_of([row[(i + k) % 12] + other[i] for i in range(12)])


def evened(row, other):
    return min(mounted_peak(row, other, k) for k in range(12))
