"""The calls on a tyre works: what it keeps, and what each call answers.

A call's def is given the works, the call's whole numbers and the list behind them
(empty where the call has none). It gives back the numbers that are answered.
"""

from tyresjudged.rows import POINTS
from tyresjudged.rows import best_turn
from tyresjudged.rows import best_way
from tyresjudged.rows import best_weight
from tyresjudged.rows import greatest_step
from tyresjudged.rows import halved
from tyresjudged.rows import peak
from tyresjudged.rows import taken_off
from tyresjudged.rows import together
from tyresjudged.rows import turned
from tyresjudged.rows import wave

NO_SUCH = -2
NOT_BEGUN = -11
OUT_OF_RANGE = -22
TOO_MANY = -28

MOST = 2000
LAST_MOULD = 7
MOST_GRADES = 4
MOST_MACHINES = 3
MOST_TYRES = 60
MOST_WHEELS = 10
MATCH_LENGTHS = (2, 4, 6, 8)

BEGIN = 0


class Tyre:
    def __init__(self, mould, row):
        self.mould = mould
        self.row = row


class Works:
    def __init__(self):
        self.begun = False
        self.empty_out()

    def empty_out(self):
        self.grades = []
        self.machines = []
        self.tyres = []
        self.wheels = []


def are_measured(told, size):
    return len(told) == size and max(told) <= MOST


def corrected(works, machine, points):
    return together(points, works.machines[machine])


def grade_and_one(works, row):
    """One more than the number of the row's grade, 0 if it is of none."""
    row_peak = peak(row)
    row_step = greatest_step(row)
    row_wave = wave(row)
    for number, mosts in enumerate(works.grades):
        if row_peak <= mosts[0] and row_step <= mosts[1] and row_wave <= mosts[2]:
            return number + 1
    return 0


def one_more(kept, limit, thing):
    if len(kept) == limit:
        return [TOO_MANY]
    kept.append(thing)
    return [len(kept) - 1]


def begin(works, numbers, told):
    works.begun = True
    works.empty_out()
    return [0]


def add_grade(works, numbers, told):
    if max(numbers) > MOST:
        return [OUT_OF_RANGE]
    return one_more(works.grades, MOST_GRADES, numbers)


def add_machine(works, numbers, told):
    if not are_measured(told, 2 * POINTS):
        return [OUT_OF_RANGE]
    # Only what is to be added to a measurement is kept of a master.
    correction = taken_off(told[:POINTS], told[POINTS:])
    return one_more(works.machines, MOST_MACHINES, correction)


def add_tyre(works, numbers, told):
    machine = numbers[0]
    mould = numbers[1]
    if machine >= len(works.machines):
        return [NO_SUCH]
    if mould > LAST_MOULD or not are_measured(told, POINTS):
        return [OUT_OF_RANGE]
    row = corrected(works, machine, told)
    answer = one_more(works.tyres, MOST_TYRES, Tyre(mould, row))
    if answer[0] < 0:
        return answer
    return answer + [grade_and_one(works, row)]


def measure_again(works, numbers, told):
    machine = numbers[1]
    if numbers[0] >= len(works.tyres) or machine >= len(works.machines):
        return [NO_SUCH]
    if not are_measured(told, POINTS):
        return [OUT_OF_RANGE]
    tyre = works.tyres[numbers[0]]
    tyre.row = halved(together(tyre.row, corrected(works, machine, told)))
    return [grade_and_one(works, tyre.row)]


def turn_tyre(works, numbers, told):
    k = numbers[1]
    if numbers[0] >= len(works.tyres):
        return [NO_SUCH]
    if k >= POINTS:
        return [OUT_OF_RANGE]
    tyre = works.tyres[numbers[0]]
    # The circle is rounded, so a turn can change the wave: the grade is asked for ahead of it.
    answer = [grade_and_one(works, tyre.row)]
    tyre.row = turned(tyre.row, k)
    return answer


def add_wheel(works, numbers, told):
    if not are_measured(told, POINTS):
        return [OUT_OF_RANGE]
    return one_more(works.wheels, MOST_WHEELS, told)


def mount_tyre(works, numbers, told):
    if numbers[0] >= len(works.tyres) or numbers[1] >= len(works.wheels):
        return [NO_SUCH]
    row = works.tyres[numbers[0]].row
    wheel = works.wheels[numbers[1]]
    best = best_turn(row, wheel)
    return [best[0], best[1], peak(together(row, wheel))]


def is_told_twice(numbers):
    return len(set(numbers)) < len(numbers)


def match_tyres(works, numbers, told):
    tyres = told[:len(told) // 2]
    wheels = told[len(told) // 2:]
    if len(told) not in MATCH_LENGTHS or is_told_twice(tyres) or is_told_twice(wheels):
        return [OUT_OF_RANGE]
    if max(tyres) >= len(works.tyres) or max(wheels) >= len(works.wheels):
        return [NO_SUCH]
    evened = []
    for tyre in tyres:
        row = works.tyres[tyre].row
        evened.append([best_turn(row, works.wheels[wheel])[1] for wheel in wheels])
    best = best_way(evened)
    return [best[0]] + [wheels[place] for place in best[1]]


def weigh_tyre(works, numbers, told):
    if numbers[0] >= len(works.tyres):
        return [NO_SUCH]
    return list(best_weight(works.tyres[numbers[0]].row))


def tell_peak(works, numbers, told):
    if numbers[0] >= len(works.tyres):
        return [NO_SUCH]
    row = works.tyres[numbers[0]].row
    return [peak(row), max(row), min(row)]


def tell_step(works, numbers, told):
    if numbers[0] >= len(works.tyres):
        return [NO_SUCH]
    return [greatest_step(works.tyres[numbers[0]].row)]


# By a call's number: how many whole numbers it has, and whether a list stands behind them.
# The calls from 12 on are in it so that they are refused before a begin; their defs are to come.
NUMBERS_OF = (0, 3, 0, 2, 2, 2, 0, 2, 0, 1, 1, 1, 1, 1, 2, 1, 1, 0, 2, 1, 1, 0, 0)
WITH_LIST = (2, 3, 4, 6, 8)

DEFS = (
    begin,
    add_grade,
    add_machine,
    add_tyre,
    measure_again,
    turn_tyre,
    add_wheel,
    mount_tyre,
    match_tyres,
    weigh_tyre,
    tell_peak,
    tell_step,
)


def answer_of(works, call, numbers, told):
    if call != BEGIN and not works.begun:
        return [NOT_BEGUN]
    if call >= len(DEFS):
        raise NotImplementedError("this call is not built yet")
    return DEFS[call](works, numbers, told)


def answers(calls):
    """What the calls on one new object answer, each with how many numbers it answers ahead of it."""
    works = Works()
    answered = []
    at = 0
    while at < len(calls):
        call = calls[at]
        behind = at + 1 + NUMBERS_OF[call]
        numbers = calls[at + 1:behind]
        told = []
        if call in WITH_LIST:
            told = calls[behind + 1:behind + 1 + calls[behind]]
            behind = behind + 1 + calls[behind]
        answer = answer_of(works, call, numbers, told)
        answered.append(len(answer))
        answered.extend(answer)
        at = behind
    return answered
