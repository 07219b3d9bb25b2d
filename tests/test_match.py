import unittest

from tests.helper import GREATEST, ask, begin, flat, last, match, peak, plain, spike, tyre, wheel

DIP = [100, 100, 100, 40, 100, 100, 100, 100, 100, 100, 100, 100]

# Evened, tyre 0 makes 60 on wheels 0 and 3, 0 on wheel 1, 60 on wheel 2; the even tyres 1 to 3
# make 0 on wheels 0 and 3, 60 on wheels 1 and 2.
WORKS = [
    begin(),
    plain(),
    tyre(0, 0, spike(60)),
    tyre(0, 0, flat(0)),
    tyre(0, 0, flat(9)),
    tyre(0, 0, flat(2000)),
    wheel(flat(0)),
    wheel(DIP),
    wheel(spike(60, 8)),
    wheel(flat(50)),
]


def matched(tyres, wheels):
    return last(*WORKS, match(tyres, wheels))


def match_of(numbers):
    return [8, len(numbers)] + numbers


class Match(unittest.TestCase):
    def test_one_of_each(self):
        self.assertEqual(matched([0], [0]), [60, 0])
        self.assertEqual(matched([0], [1]), [0, 1])
        self.assertEqual(matched([3], [2]), [60, 2])

    def test_two_of_each(self):
        self.assertEqual(matched([0, 1], [0, 1]), [0, 1, 0])
        self.assertEqual(matched([1, 0], [0, 1]), [0, 0, 1])
        self.assertEqual(matched([0, 1], [1, 0]), [0, 1, 0])
        self.assertEqual(matched([1, 0], [1, 0]), [0, 0, 1])

    def test_of_ways_as_good_the_first(self):
        self.assertEqual(matched([1, 2], [0, 1]), [60, 0, 1])
        self.assertEqual(matched([1, 2], [1, 0]), [60, 1, 0])
        self.assertEqual(matched([2, 1], [1, 0]), [60, 1, 0])
        self.assertEqual(matched([1, 2, 3], [3, 0, 2]), [60, 3, 0, 2])
        self.assertEqual(matched([3, 2, 1], [2, 3, 0]), [60, 2, 3, 0])

    def test_the_order_told_is_the_order_not_the_wheels_numbers(self):
        # Tyre 0 must have wheel 1; the even ones may have wheels 3 and 0 either way.
        self.assertEqual(matched([1, 0, 2], [3, 1, 0]), [0, 3, 1, 0])
        self.assertEqual(matched([1, 0, 2], [0, 1, 3]), [0, 0, 1, 3])
        self.assertEqual(matched([0, 1, 2], [3, 0, 1]), [0, 1, 3, 0])

    def test_only_the_most_uneven_one_counts(self):
        # One of them is evened to 60 whatever is done, so the first way stands.
        self.assertEqual(matched([0, 1, 2], [0, 1, 2]), [60, 0, 1, 2])

    def test_four_of_each(self):
        self.assertEqual(matched([0, 1, 2, 3], [0, 1, 2, 3]), [60, 0, 1, 2, 3])
        self.assertEqual(matched([3, 0, 2, 1], [2, 3, 1, 0]), [60, 2, 3, 1, 0])

    def test_four_of_each_with_only_one_best_way(self):
        # On the wheel whose dips lie as its hills do each tyre is quite even, on the others it isn't.
        gaps = [1, 2, 3, 4]
        hills = [[50 if i in (0, gap) else 0 for i in range(12)] for gap in gaps]
        hollows = [[50 - point for point in row] for row in hills]
        calls = [begin(), plain()] + [tyre(0, 0, row) for row in hills] + [wheel(row) for row in hollows]
        self.assertEqual(last(*calls, match([0, 1, 2, 3], [3, 1, 0, 2])), [0, 0, 1, 2, 3])
        self.assertEqual(last(*calls, match([2, 0, 3, 1], [0, 1, 2, 3])), [0, 2, 0, 3, 1])

    def test_the_same_number_as_tyre_and_as_wheel_is_not_twice(self):
        self.assertEqual(matched([1, 0], [1, 0]), [0, 0, 1])

    def test_told_twice(self):
        self.assertEqual(matched([0, 0], [0, 1]), [-22])
        self.assertEqual(matched([0, 1], [1, 1]), [-22])
        self.assertEqual(matched([0, 1, 2, 0], [0, 1, 2, 3]), [-22])
        self.assertEqual(matched([0, 1, 2, 3], [3, 1, 2, 3]), [-22])
        self.assertEqual(matched([0, 1, 1], [0, 1, 2]), [-22])

    def test_other_lengths(self):
        for size in (0, 1, 3, 5, 7, 9, 10, 12, 30):
            with self.subTest(size=size):
                self.assertEqual(last(*WORKS, match_of(list(range(size)))), [-22])
        self.assertEqual(last(*WORKS, match_of([0, 1, 0])), [-22])
        self.assertEqual(last(*WORKS, match_of([0, 1, 2, 0, 1])), [-22])

    def test_five_of_each(self):
        calls = [begin(), plain()] + [tyre(0, 0, flat(0))] * 5 + [wheel(flat(0))] * 5
        self.assertEqual(last(*calls, match([0, 1, 2, 3, 4], [0, 1, 2, 3, 4])), [-22])
        self.assertEqual(last(*calls, match([1, 2, 3, 4], [4, 3, 2, 0])), [0, 4, 3, 2, 0])

    def test_no_such(self):
        self.assertEqual(matched([4], [0]), [-2])
        self.assertEqual(matched([0], [4]), [-2])
        self.assertEqual(matched([GREATEST], [0]), [-2])
        self.assertEqual(matched([0], [GREATEST]), [-2])
        self.assertEqual(matched([0, 1, 2, 4], [0, 1, 2, 3]), [-2])
        self.assertEqual(matched([0, 1, 2, 3], [4, 1, 2, 3]), [-2])
        self.assertEqual(last(begin(), match([0], [0])), [-2])

    def test_here_out_of_range_goes_ahead_of_no_such(self):
        self.assertEqual(matched([9, 9], [0, 1]), [-22])
        self.assertEqual(matched([9, 0], [1, 1]), [-22])
        self.assertEqual(matched([0, 1], [9, 9]), [-22])
        self.assertEqual(last(*WORKS, match_of([9])), [-22])
        self.assertEqual(last(begin(), match([], [])), [-22])
        self.assertEqual(last(begin(), match([0, 1, 2, 3, 4], [0, 1, 2, 3, 4])), [-22])

    def test_nothing_is_changed_by_it(self):
        answered = ask(*WORKS, match([0, 1], [0, 1]), match([0, 0], [0, 1]), match([8], [0]), match([0, 1], [0, 1]),
                       peak(0))
        self.assertEqual(answered[-5:], [[0, 1, 0], [-22], [-2], [0, 1, 0], [60, 60, 0]])


if __name__ == "__main__":
    unittest.main()
