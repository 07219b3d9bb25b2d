"""Builds lists of calls, and takes the answers apart call by call."""

from tyresjudged.uniformity import answers

GREATEST = 4294967295

CIRCLE = [1000, 866, 500, 0, -500, -866, -1000, -866, -500, 0, 500, 866]


def begin():
    return [0]


def grade(p, j, w):
    return [1, p, j, w]


def machine(true, measured):
    return [2, len(true) + len(measured)] + true + measured


def tyre(k, m, points):
    return [3, k, m, len(points)] + points


def again(t, k, points):
    return [4, t, k, len(points)] + points


def turn(t, k):
    return [5, t, k]


def wheel(points):
    return [6, len(points)] + points


def mount(t, w):
    return [7, t, w]


def match(tyres, wheels):
    return [8, len(tyres) + len(wheels)] + tyres + wheels


def weight(t):
    return [9, t]


def peak(t):
    return [10, t]


def step(t):
    return [11, t]


def flat(value):
    return [value] * 12


def spike(value, point=0):
    """A row that is 0 but at one point."""
    return [value if i == point else 0 for i in range(12)]


def plain():
    """A machine that needs no correction."""
    return machine(flat(0), flat(0))


def lowering(amount):
    """A machine that measures so much too high at every point."""
    return machine(flat(0), flat(amount))


def ask(*calls):
    """The answers to these calls, a list for each."""
    numbers = [number for call in calls for number in call]
    given = list(numbers)
    answered = answers(numbers)
    assert numbers == given, "the list that was handed in is changed"
    apart = []
    at = 0
    while at < len(answered):
        size = answered[at]
        apart.append(answered[at + 1:at + 1 + size])
        assert len(apart[-1]) == size, "a count is more than what is behind it"
        at += 1 + size
    assert len(apart) == len(calls), "there is not one answer for each call"
    return apart


def last(*calls):
    return ask(*calls)[-1]


def with_tyre(points, *calls):
    """The answers to calls behind a begin, a plain machine and one tyre (0)."""
    return ask(begin(), plain(), tyre(0, 0, points), *calls)[3:]
