import unittest

from tests.helper import GREATEST, ask, begin, flat, last, lowering, plain, spike, tyre, weight, with_tyre


def weighed(points):
    return with_tyre(points, weight(0))[0]


def row_with(**points):
    row = flat(0)
    for name, value in points.items():
        row[int(name[1:])] = value
    return row


class Weight(unittest.TestCase):
    def test_nothing_is_left(self):
        # At the opposite point it takes off what the 60 adds.
        self.assertEqual(weighed(spike(60)), [60, 6, 0])
        self.assertEqual(weighed(spike(60, 3)), [60, 9, 0])
        self.assertEqual(weighed(spike(60, 6)), [60, 0, 0])
        self.assertEqual(weighed(spike(60, 9)), [60, 3, 0])

    def test_at_each_point(self):
        for point in range(12):
            self.assertEqual(weighed(spike(25, point)), [25, (point + 6) % 12, 0])

    def test_by_fives(self):
        # Across is 12000: 10 leave 2000, 15 would leave -3000.
        self.assertEqual(weighed(spike(12)), [10, 6, 4000000])
        self.assertEqual(weighed(spike(13)), [15, 6, 4000000])
        self.assertEqual(weighed(spike(57)), [55, 6, 4000000])
        self.assertEqual(weighed(spike(58)), [60, 6, 4000000])

    def test_no_more_than_sixty(self):
        self.assertEqual(weighed(spike(63)), [60, 6, 9000000])
        self.assertEqual(weighed(spike(65)), [60, 6, 25000000])
        # 2000000 less 60000, squared.
        self.assertEqual(weighed(spike(2000)), [60, 6, 3763600000000])

    def test_nought_is_best(self):
        self.assertEqual(weighed(spike(1)), [0, 0, 1000000])
        self.assertEqual(weighed(spike(2, 3)), [0, 0, 4000000])
        self.assertEqual(weighed(spike(2, 9)), [0, 0, 4000000])
        # From 3 on 5 leaves less: 3000 and -2000.
        self.assertEqual(weighed(spike(3)), [5, 6, 4000000])

    def test_all_points_alike(self):
        self.assertEqual(weighed(flat(0)), [0, 0, 0])
        self.assertEqual(weighed(flat(2000)), [0, 0, 0])

    def test_of_alike_ones_the_lighter(self):
        # 125 * 866 twice less 214 * 1000 is 2500 across: 5 at point 6 would leave -2500, squared the same.
        self.assertEqual(weighed(row_with(p1=125, p11=125, p6=214)), [0, 0, 6250000])
        # 209 instead make 7500: with 5 there are 2500 left, with 10 -2500.
        self.assertEqual(weighed(row_with(p1=125, p11=125, p6=209)), [5, 6, 6250000])

    def test_of_alike_ones_the_lesser_point(self):
        # Across 9330, upwards 2500: 10 leave -670 and 2500 at point 6, 670 and -2500 at point 7.
        self.assertEqual(weighed(row_with(p0=5, p1=5)), [10, 6, 6698900])

    def test_all_alike_points_where_the_last_would_do_too(self):
        # Across -9330, upwards -2500: points 0 and 1 are as good; likewise 11 and 0 for the mirrored one.
        self.assertEqual(weighed(row_with(p6=5, p7=5)), [10, 0, 6698900])
        self.assertEqual(weighed(row_with(p5=5, p6=5)), [10, 0, 6698900])

    def test_a_row_below_nought(self):
        answered = ask(begin(), lowering(2000), tyre(0, 0, spike(60, 3)), weight(0))
        self.assertEqual(answered[-1], [60, 9, 0])

    def test_both_ways_at_once(self):
        # Across 10000, upwards 10000. At point 7, 15 leave 10000 - 12990 and 10000 - 7500;
        # at point 8 the same the other way about, which is alike: the lesser point.
        self.assertEqual(weighed(row_with(p0=10, p3=10)), [15, 7, 2990 ** 2 + 2500 ** 2])

    def test_no_such(self):
        calls = [begin(), plain(), tyre(0, 0, spike(60))]
        for number in (1, 60, GREATEST):
            self.assertEqual(last(*calls, weight(number)), [-2])
        self.assertEqual(last(begin(), weight(0)), [-2])
        self.assertEqual(ask(*calls, weight(1), weight(0))[-1], [60, 6, 0])

    def test_it_only_tells(self):
        self.assertEqual(with_tyre(spike(60), weight(0), weight(0)), [[60, 6, 0]] * 2)

    def test_each_tyre_by_itself(self):
        answered = ask(begin(), plain(), tyre(0, 0, spike(60)), tyre(0, 0, spike(5, 1)), weight(1), weight(0))
        self.assertEqual(answered[-2:], [[5, 7, 0], [60, 6, 0]])


if __name__ == "__main__":
    unittest.main()
