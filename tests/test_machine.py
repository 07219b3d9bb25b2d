import unittest

from tests.helper import GREATEST, ask, begin, flat, last, machine, peak, plain, step, tyre, weight


def machine_of(numbers):
    return [2, len(numbers)] + numbers


class Machine(unittest.TestCase):
    def test_numbers(self):
        self.assertEqual(ask(begin(), plain(), machine(flat(3), flat(4)), plain()), [[0], [0], [1], [2]])

    def test_three_and_one_more(self):
        self.assertEqual(ask(begin(), *[plain()] * 5)[3:], [[2], [-28], [-28]])

    def test_only_twenty_four_numbers(self):
        for size in (0, 1, 12, 23, 25, 30):
            self.assertEqual(last(begin(), machine_of([5] * size)), [-22])
        self.assertEqual(last(begin(), machine_of([5] * 24)), [0])

    def test_just_two_thousand_and_above(self):
        self.assertEqual(last(begin(), machine_of([2000] * 24)), [0])
        for above in (2001, GREATEST):
            for place in (0, 11, 12, 23):
                numbers = [2000] * 24
                numbers[place] = above
                self.assertEqual(last(begin(), machine_of(numbers)), [-22])

    def test_out_of_range_goes_ahead_of_too_many(self):
        self.assertEqual(last(begin(), *[plain()] * 3, machine_of([0] * 23)), [-22])
        self.assertEqual(last(begin(), *[plain()] * 3, machine_of([2001] * 24)), [-22])

    def test_a_refused_one_is_not_kept(self):
        self.assertEqual(ask(begin(), machine_of([1] * 23), tyre(0, 0, flat(0)), plain())[1:], [[-22], [-2], [0]])
        self.assertEqual(ask(begin(), *[plain()] * 3, machine(flat(9), flat(0)), tyre(3, 0, flat(0)),
                             tyre(2, 0, flat(0)), peak(0))[4:], [[-28], [-2], [0, 0], [0, 0, 0]])


class Corrected(unittest.TestCase):
    def test_true_is_added_and_measured_taken_off(self):
        measured = flat(100)
        measured[0] = 110
        measured[1] = 70
        answered = ask(begin(), machine(flat(105), measured), tyre(0, 0, flat(200)), peak(0), step(0))
        # The row is 195, 235, then 205 ten times.
        self.assertEqual(answered[3:], [[40, 235, 195], [40]])

    def test_each_point_by_its_own(self):
        true = [0, 10, 20, 30, 40, 50, 60, 70, 80, 90, 100, 110]
        measured = [110, 100, 90, 80, 70, 60, 50, 40, 30, 20, 10, 0]
        answered = ask(begin(), machine(true, measured), tyre(0, 0, flat(200)), peak(0), step(0))
        # The row rises by 20 from 90 to 310.
        self.assertEqual(answered[3:], [[220, 310, 90], [220]])

    def test_a_machine_that_needs_no_correction(self):
        for level in (0, 1, 2000):
            answered = ask(begin(), machine(flat(level), flat(level)), tyre(0, 0, [7] + flat(3)[1:]), peak(0))
            self.assertEqual(answered[-1], [4, 7, 3])

    def test_each_machine_has_its_own_correction(self):
        calls = [begin(), machine(flat(1), flat(0)), machine(flat(0), flat(2)), plain()]
        for k, level in enumerate((11, 8, 10)):
            self.assertEqual(last(*calls, tyre(k, 0, flat(10)), peak(0)), [0, level, level])

    def test_rows_below_nought(self):
        answered = ask(begin(), machine(flat(0), flat(2000)), tyre(0, 0, flat(0)), peak(0))
        self.assertEqual(answered[-1], [0, -2000, -2000])

    def test_rows_above_two_thousand(self):
        answered = ask(begin(), machine(flat(2000), flat(0)), tyre(0, 0, flat(2000)), peak(0))
        self.assertEqual(answered[-1], [0, 4000, 4000])

    def test_on_whatever_machine_the_master_is_as_it_truly_is(self):
        true = [500, 520, 540, 530, 515, 500, 470, 450, 455, 470, 480, 490]
        asked = [peak(0), step(0), weight(0)]
        as_it_is = ask(begin(), plain(), tyre(0, 0, true), *asked)[3:]
        self.assertEqual(as_it_is[:2], [[90, 540, 450], [30]])
        for measured in (flat(0), flat(2000), [2000, 0] * 6, list(reversed(true))):
            answered = ask(begin(), machine(true, measured), tyre(0, 0, measured), *asked)
            self.assertEqual(answered[3:], as_it_is)


if __name__ == "__main__":
    unittest.main()
