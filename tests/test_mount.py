import unittest

from tests.helper import GREATEST, ask, begin, flat, last, lowering, mount, plain, spike, turn, tyre, wheel


def dip(*points):
    """A wheel that is 100, but 40 at these points."""
    return [40 if i in points else 100 for i in range(12)]


def mounted(tyre_points, wheel_points, made=plain):
    return last(begin(), made(), tyre(0, 0, tyre_points), wheel(wheel_points), mount(0, 0))


class Mount(unittest.TestCase):
    def test_the_best_turn_and_both_peaks(self):
        # Turned by 9 the tyre's 60 comes from point 0 to point 3 and fills the dip there.
        # Without a turn the greatest is 160, the least 40.
        self.assertEqual(mounted(spike(60), dip(3)), [9, 0, 120])

    def test_each_turn(self):
        for k in range(12):
            without = 0 if k == 0 else 120
            self.assertEqual(mounted(spike(60, k), dip(0)), [k, 0, without])

    def test_no_turn_is_better(self):
        self.assertEqual(mounted(spike(60), spike(40, 3)), [0, 60, 60])

    def test_of_turns_as_good_the_least(self):
        # Turned by 9 it fills the dip at 3, by 7 the one at 5.
        self.assertEqual(mounted(spike(60), dip(3, 5)), [7, 60, 120])
        # Where both have a point that is more they must not meet: any other turn than 0 is as good.
        self.assertEqual(mounted(spike(60), spike(40)), [1, 60, 100])
        # A row that has each point again half round: turned by 3 and by 9 it is the same.
        self.assertEqual(mounted([60, 0, 0, 0, 0, 0, 60, 0, 0, 0, 0, 0], dip(3, 9)), [3, 0, 120])

    def test_all_points_alike(self):
        self.assertEqual(mounted(flat(7), dip(3)), [0, 60, 60])
        self.assertEqual(mounted(spike(60), flat(2000)), [0, 60, 60])
        self.assertEqual(mounted(flat(0), flat(0)), [0, 0, 0])

    def test_a_tyre_below_nought(self):
        self.assertEqual(mounted(spike(60), dip(3), lambda: lowering(1000)), [9, 0, 120])

    def test_a_wheel_is_not_corrected(self):
        calls = [begin(), [2, 24] + flat(0) + spike(60), tyre(0, 0, spike(60)), wheel(spike(60)), mount(0, 0)]
        self.assertEqual(last(*calls), [0, 60, 60])

    def test_the_tyre_as_it_is_turned_by_now(self):
        calls = [begin(), plain(), tyre(0, 0, spike(60)), wheel(dip(3)), turn(0, 2), mount(0, 0)]
        self.assertEqual(last(*calls), [7, 0, 120])

    def test_mounting_turns_nothing(self):
        calls = [begin(), plain(), tyre(0, 0, spike(60)), wheel(dip(3)), mount(0, 0), mount(0, 0)]
        self.assertEqual(ask(*calls)[4:], [[9, 0, 120]] * 2)

    def test_which_tyre_and_which_wheel(self):
        calls = [begin(), plain(), tyre(0, 0, spike(60)), tyre(0, 0, spike(20)), wheel(dip(3)), wheel(flat(0)),
                 wheel(spike(100))]
        self.assertEqual(ask(*calls, mount(1, 0), mount(0, 1), mount(1, 2))[7:],
                         [[9, 40, 80], [0, 60, 60], [1, 100, 120]])

    def test_no_such(self):
        calls = [begin(), plain(), tyre(0, 0, flat(0)), wheel(flat(0))]
        for t, w in [(1, 0), (0, 1), (1, 1), (GREATEST, 0), (0, GREATEST)]:
            self.assertEqual(last(*calls, mount(t, w)), [-2])
        self.assertEqual(ask(*calls, mount(1, 0), mount(0, 1), mount(0, 0))[-1], [0, 0, 0])

    def test_an_ordinary_one_by_hand(self):
        tyre_points = [10, 30, 20, 0, 0, 0, 0, 0, 0, 0, 0, 0]
        wheel_points = [50, 50, 50, 50, 50, 50, 40, 20, 30, 50, 50, 50]
        # Turned by 6 the tyre's hill lies at 6, 7, 8, where the wheel has its hollow.
        # Without a turn the greatest is 80, the least 20.
        self.assertEqual(mounted(tyre_points, wheel_points), [6, 0, 60])


if __name__ == "__main__":
    unittest.main()
