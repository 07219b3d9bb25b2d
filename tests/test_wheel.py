import unittest

from tests.helper import GREATEST, ask, begin, flat, last, mount, plain, spike, tyre, wheel


class Wheel(unittest.TestCase):
    def test_numbers_ten_and_one_more(self):
        answered = ask(begin(), *[wheel(flat(i)) for i in range(12)])
        self.assertEqual(answered[1:], [[i] for i in range(10)] + [[-28], [-28]])

    def test_only_twelve_points(self):
        for size in (0, 1, 11, 13, 24, 30):
            self.assertEqual(last(begin(), wheel([1] * size)), [-22])
        self.assertEqual(last(begin(), wheel([1] * 12)), [0])

    def test_just_two_thousand_and_above(self):
        self.assertEqual(last(begin(), wheel(flat(2000))), [0])
        for above in (2001, GREATEST):
            for point in (0, 6, 11):
                self.assertEqual(last(begin(), wheel(spike(above, point))), [-22])

    def test_out_of_range_goes_ahead_of_too_many(self):
        full = [begin()] + [wheel(flat(0))] * 10
        self.assertEqual(last(*full, wheel([])), [-22])
        self.assertEqual(last(*full, wheel(flat(2001))), [-22])

    def test_a_refused_one_is_not_kept(self):
        calls = [begin(), plain(), tyre(0, 0, flat(0))]
        self.assertEqual(ask(*calls, wheel([1] * 11), mount(0, 0), wheel(spike(3)), mount(0, 0))[3:],
                         [[-22], [-2], [0], [0, 3, 3]])
        full = calls + [wheel(spike(5))] * 10 + [wheel(spike(7))]
        self.assertEqual(ask(*full, mount(0, 10), mount(0, 9))[-2:], [[-2], [0, 5, 5]])


if __name__ == "__main__":
    unittest.main()
