"""Rows of twelve whole numbers round a tyre or a wheel, and how they go together.

Nothing in here changes a row that it is given.
"""

POINTS = 12
CIRCLE = (1000, 866, 500, 0, -500, -866, -1000, -866, -500, 0, 500, 866)
WAVE_SHARE = 6000
WEIGHT_STEP = 5
HEAVIEST = 60


def turned(row, k):
    """The row that has at point i what this one has at i + k; k is 0 to 11."""
    return row[k:] + row[:k]


def together(row, other):
    return [row[i] + other[i] for i in range(POINTS)]


def taken_off(row, other):
    return [row[i] - other[i] for i in range(POINTS)]


def halved(row):
    # // rounds down below 0 too, as the document asks of halves.
    return [point // 2 for point in row]


def peak(row):
    return max(row) - min(row)


def greatest_step(row):
    # Behind the last point comes the first again, so that step counts too.
    following = turned(row, 1)
    return max([abs(row[i] - following[i]) for i in range(POINTS)])


def circle_across(point):
    return CIRCLE[point]


def circle_upwards(point):
    return CIRCLE[(point - 3) % POINTS]


def across(row):
    return sum([row[i] * circle_across(i) for i in range(POINTS)])


def upwards(row):
    return sum([row[i] * circle_upwards(i) for i in range(POINTS)])


def whole_root(square):
    """The greatest whole number whose square is no more than this one."""
    guess = square
    # Each guess lies at the root or above it, so the first that is not too great is the root.
    while guess * guess > square:
        guess = (guess + square // guess) // 2
    return guess


def wave_squared(row):
    return across(row) ** 2 + upwards(row) ** 2


def wave(row):
    return whole_root(wave_squared(row)) // WAVE_SHARE


def crest(row):
    """The point where the wave is most; of alike ones the first."""
    row_across = across(row)
    row_upwards = upwards(row)
    heights = [row_across * circle_across(i) + row_upwards * circle_upwards(i) for i in range(POINTS)]
    return heights.index(max(heights))


def best_turn(tyre, wheel):
    """The turn by which tyre and wheel together have the least peak, and that peak."""
    best = (0, peak(together(tyre, wheel)))
    for k in range(1, POINTS):
        evened = peak(together(turned(tyre, k), wheel))
        if evened < best[1]:
            best = (k, evened)
    return best


def best_weight(row):
    """The weight that leaves least of the wave squared, its point, and how much is left."""
    row_across = across(row)
    row_upwards = upwards(row)
    # A weight of 0 does the same at every point: it is tried once, and stands at point 0.
    best = (0, 0, wave_squared(row))
    for weight in range(WEIGHT_STEP, HEAVIEST + 1, WEIGHT_STEP):
        for point in range(POINTS):
            left_across = row_across + weight * circle_across(point)
            left_upwards = row_upwards + weight * circle_upwards(point)
            left = left_across ** 2 + left_upwards ** 2
            if left < best[2]:
                best = (weight, point, left)
    return best


def longer_ways(ways, size):
    """Each way with one more place behind it that it does not have yet, in rising order."""
    longer = []
    for way in ways:
        for place in range(size):
            if place not in way:
                longer.append(way + [place])
    return longer


def ways_to_match(size):
    """Every order of the places 0 to size - 1; that is first which is less where two first differ."""
    ways = [[]]
    while len(ways[0]) < size:
        ways = longer_ways(ways, size)
    return ways


def most_uneven(evened, way):
    return max([evened[i][place] for i, place in enumerate(way)])


def best_way(evened):
    """Of the peaks evened[tyre][wheel]: the first way whose greatest peak is least, behind that peak."""
    ways = ways_to_match(len(evened))
    best = (most_uneven(evened, ways[0]), ways[0])
    for way in ways:
        worst = most_uneven(evened, way)
        if worst < best[0]:
            best = (worst, way)
    return best
