"""The calls on a tyre works: what it keeps, and what each call answers.

A call's def is given the works, the call's whole numbers and the list behind them
(empty where the call has none). It gives back the numbers that are answered.
"""

from tyresjudged.rows import POINTS
from tyresjudged.rows import across
from tyresjudged.rows import best_turn
from tyresjudged.rows import best_way
from tyresjudged.rows import best_weight
from tyresjudged.rows import crest
from tyresjudged.rows import greatest_step
from tyresjudged.rows import halved
from tyresjudged.rows import peak
from tyresjudged.rows import taken_off
from tyresjudged.rows import together
from tyresjudged.rows import turned
from tyresjudged.rows import upwards
from tyresjudged.rows import wave

NO_SUCH = -2
NONE_THERE = -6
NOT_BEGUN = -11
TOO_FEW = -12
OUT_OF_RANGE = -22
TOO_MANY = -28
OF_NONE = -33

MOST = 2000
LAST_MOULD = 7
MOST_GRADES = 4
MOST_MACHINES = 3
MOST_TYRES = 60
MOST_WHEELS = 10
MATCH_LENGTHS = (2, 4, 6, 8)

BEGIN = 0


class Tyre:
    def __init__(self, mould, row):
        self.mould = mould
        self.row = row


class Works:
    def __init__(self):
        self.begun = False
        self.empty_out()

    def empty_out(self):
        self.grades = []
        self.machines = []
        self.tyres = []
        self.wheels = []


def are_measured(told, size):
    return len(told) == size and max(told) <= MOST


def corrected(works, machine, points):
    return together(points, works.machines[machine])


def judged(row):
    """What a grade has a most for, in the order of its mosts."""
    return [peak(row), greatest_step(row), wave(row)]


def first_above(values, mosts):
    """Which of the values is the first above its most, counted from 1; 0 if all keep to it."""
    for i in range(len(mosts)):
        if values[i] > mosts[i]:
            return i + 1
    return 0


def grade_and_one(works, row):
    """One more than the number of the row's grade, 0 if it is of none."""
    values = judged(row)
    for number, mosts in enumerate(works.grades):
        if first_above(values, mosts) == 0:
            return number + 1
    return 0


def grades_and_one(works):
    return [grade_and_one(works, tyre.row) for tyre in works.tyres]


def rows_of_mould(works, mould):
    return [tyre.row for tyre in works.tyres if tyre.mould == mould]


def peaks_of_mould(works, mould):
    return [peak(row) for row in rows_of_mould(works, mould)]


def one_more(kept, limit, thing):
    if len(kept) == limit:
        return [TOO_MANY]
    kept.append(thing)
    return [len(kept) - 1]


def begin(works, numbers, told):
    works.begun = True
    works.empty_out()
    return [0]


def add_grade(works, numbers, told):
    if max(numbers) > MOST:
        return [OUT_OF_RANGE]
    return one_more(works.grades, MOST_GRADES, numbers)


def add_machine(works, numbers, told):
    if not are_measured(told, 2 * POINTS):
        return [OUT_OF_RANGE]
    # Only what is to be added to a measurement is kept of a master.
    correction = taken_off(told[:POINTS], told[POINTS:])
    return one_more(works.machines, MOST_MACHINES, correction)


def add_tyre(works, numbers, told):
    mould = numbers[1]
    if mould > LAST_MOULD or not are_measured(told, POINTS):
        return [OUT_OF_RANGE]
    row = corrected(works, numbers[0], told)
    answer = one_more(works.tyres, MOST_TYRES, Tyre(mould, row))
    if answer[0] < 0:
        return answer
    return answer + [grade_and_one(works, row)]


def measure_again(works, numbers, told):
    if not are_measured(told, POINTS):
        return [OUT_OF_RANGE]
    tyre = works.tyres[numbers[0]]
    tyre.row = halved(together(tyre.row, corrected(works, numbers[1], told)))
    return [grade_and_one(works, tyre.row)]


def turn_tyre(works, numbers, told):
    k = numbers[1]
    if k >= POINTS:
        return [OUT_OF_RANGE]
    tyre = works.tyres[numbers[0]]
    # The circle is rounded, so a turn can change the wave: the grade is asked for ahead of it.
    answer = [grade_and_one(works, tyre.row)]
    tyre.row = turned(tyre.row, k)
    return answer


def add_wheel(works, numbers, told):
    if not are_measured(told, POINTS):
        return [OUT_OF_RANGE]
    return one_more(works.wheels, MOST_WHEELS, told)


def mount_tyre(works, numbers, told):
    row = works.tyres[numbers[0]].row
    wheel = works.wheels[numbers[1]]
    best = best_turn(row, wheel)
    return [best[0], best[1], peak(together(row, wheel))]


def is_told_twice(numbers):
    return len(set(numbers)) < len(numbers)


def match_tyres(works, numbers, told):
    tyres = told[:len(told) // 2]
    wheels = told[len(told) // 2:]
    if len(told) not in MATCH_LENGTHS or is_told_twice(tyres) or is_told_twice(wheels):
        return [OUT_OF_RANGE]
    if max(tyres) >= len(works.tyres) or max(wheels) >= len(works.wheels):
        return [NO_SUCH]
    evened = []
    for tyre in tyres:
        row = works.tyres[tyre].row
        evened.append([best_turn(row, works.wheels[wheel])[1] for wheel in wheels])
    best = best_way(evened)
    return [best[0]] + [wheels[place] for place in best[1]]


def weigh_tyre(works, numbers, told):
    return list(best_weight(works.tyres[numbers[0]].row))


def tell_peak(works, numbers, told):
    row = works.tyres[numbers[0]].row
    return [peak(row), max(row), min(row)]


def tell_step(works, numbers, told):
    return [greatest_step(works.tyres[numbers[0]].row)]


def tell_wave(works, numbers, told):
    row = works.tyres[numbers[0]].row
    return [wave(row), crest(row), across(row), upwards(row)]


def tell_grade(works, numbers, told):
    found = grade_and_one(works, works.tyres[numbers[0]].row)
    if found == 0:
        return [OF_NONE]
    return [found - 1]


def tell_why(works, numbers, told):
    values = judged(works.tyres[numbers[0]].row)
    return [first_above(values, works.grades[numbers[1]])]


def tell_tyres_of_grade(works, numbers, told):
    tyres = [i for i, found in enumerate(grades_and_one(works)) if found == numbers[0] + 1]
    return [len(tyres)] + tyres


def tell_mould(works, numbers, told):
    mould = numbers[0]
    if mould > LAST_MOULD:
        return [OUT_OF_RANGE]
    peaks = peaks_of_mould(works, mould)
    graded = [grade_and_one(works, row) for row in rows_of_mould(works, mould)]
    return [len(peaks), sum(peaks), max(peaks, default=0), graded.count(0)]


def have_greater_mean(peaks, others):
    # Compared crosswise, so that neither mean is rounded.
    return sum(peaks) * len(others) > sum(others) * len(peaks)


def tell_uneven(works, numbers, told):
    if len(works.tyres) == 0:
        return [NONE_THERE]
    moulds = sorted(set([tyre.mould for tyre in works.tyres]))
    found = moulds[0]
    peaks = peaks_of_mould(works, found)
    for mould in moulds:
        others = peaks_of_mould(works, mould)
        if have_greater_mean(others, peaks):
            found = mould
            peaks = others
    return [found, sum(peaks), len(peaks)]


def tell_alarm(works, numbers, told):
    mould = numbers[0]
    size = numbers[1]
    if mould > LAST_MOULD or size == 0:
        return [OUT_OF_RANGE]
    made = rows_of_mould(works, mould)
    if len(made) < size:
        return [TOO_FEW]
    graded = [grade_and_one(works, row) for row in made[len(made) - size:]]
    # Grade 0 and one is 1.
    return [0 if 1 in graded else 1]


def look_at_tyre(works, numbers, told):
    tyre = works.tyres[numbers[0]]
    return [tyre.mould, grade_and_one(works, tyre.row)]


def tell_points(works, numbers, told):
    return [POINTS] + works.tyres[numbers[0]].row


def tell_sums(works, numbers, told):
    graded = grades_and_one(works)
    return [0, len(works.tyres)] + [graded.count(number + 1) for number in range(len(works.grades))]


def tell_state(works, numbers, told):
    return [len(works.tyres), len(works.grades), len(works.machines), len(works.wheels)]


# By a call's number: what each of its whole numbers tells.
# t: a tyre, k: a machine, w: a wheel, g: a grade, which must be there; n: a number of another sort.
NUMBERS_OF = ("", "nnn", "", "kn", "tk", "tn", "", "tw", "", "t", "t", "t",
              "t", "t", "tg", "g", "n", "", "nn", "t", "t", "", "")
WITH_LIST = (2, 3, 4, 6, 8)

DEFS = (
    begin,
    add_grade,
    add_machine,
    add_tyre,
    measure_again,
    turn_tyre,
    add_wheel,
    mount_tyre,
    match_tyres,
    weigh_tyre,
    tell_peak,
    tell_step,
    tell_wave,
    tell_grade,
    tell_why,
    tell_tyres_of_grade,
    tell_mould,
    tell_uneven,
    tell_alarm,
    look_at_tyre,
    tell_points,
    tell_sums,
    tell_state,
)


def is_there(works, letter, number):
    kept = {"t": works.tyres, "k": works.machines, "w": works.wheels, "g": works.grades}
    return letter not in kept or number < len(kept[letter])


def are_there(works, call, numbers):
    return all([is_there(works, letter, number) for letter, number in zip(NUMBERS_OF[call], numbers)])


def answer_of(works, call, numbers, told):
    if call != BEGIN and not works.begun:
        return [NOT_BEGUN]
    # This goes ahead of all that the calls refuse themselves; match, whose tyres and wheels
    # stand in its list, sees to it where the document tells it.
    if not are_there(works, call, numbers):
        return [NO_SUCH]
    return DEFS[call](works, numbers, told)


def answers(calls):
    """What the calls on one new object answer, each with how many numbers it answers ahead of it."""
    works = Works()
    answered = []
    at = 0
    while at < len(calls):
        call = calls[at]
        behind = at + 1 + len(NUMBERS_OF[call])
        numbers = calls[at + 1:behind]
        told = []
        if call in WITH_LIST:
            told = calls[behind + 1:behind + 1 + calls[behind]]
            behind = behind + 1 + calls[behind]
        answer = answer_of(works, call, numbers, told)
        answered.append(len(answer))
        answered.extend(answer)
        at = behind
    return answered
