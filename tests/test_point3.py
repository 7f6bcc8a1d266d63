"""Point 3: need, mild, quick, most, drops."""

import unittest

from tests.helper import (
    LARGEST, ask, back, begin, check_refused, drive, drops, last, load, mild, most, need, quick, stop, wait, way)

# Ways of 30 all over: stop 0 wants most frost, so it is best driven to first.
THREE = [begin(1, 2), stop(10, 200, 1), stop(20, 100, 1), stop(5, 150, 1)]
ALIKE = [begin(1, 2)] + [stop(5, 50, 1)] * 6
# The near stop has a long open door, the far one wants more.
FAR = [begin(1, 10), stop(10, 50, 1), stop(1, 60, 1), way(0, 1, 5), way(0, 2, 100), way(1, 2, 95), way(2, 1, 95),
       way(1, 0, 5), way(2, 0, 100)]


class Need(unittest.TestCase):
    def test_the_most_that_a_drop_needs(self):
        self.assertEqual(last(THREE + [need([0, 1, 2])]), [30 + 20 + 30 + 40 + 30 + 150, 155])
        self.assertEqual(last(THREE + [need([0, 2, 1])]), [30 + 20 + 30 + 150, 155])
        self.assertEqual(last(THREE + [need([1, 2, 0])]), [30 + 40 + 30 + 10 + 30 + 200, 155])

    def test_a_row_of_one(self):
        self.assertEqual(last(THREE + [need([1])]), [130, 80])

    def test_the_empty_row(self):
        self.assertEqual(last(THREE + [need([])]), [0, 0])
        self.assertEqual(last([begin(), need([])]), [0, 0])

    def test_what_is_lost_at_the_last_door_does_not_count(self):
        line = [begin(1, 100), stop(120, 1, 1)]
        self.assertEqual(last(line + [need([0])]), [31, 180])

    def test_above_600_is_told_all_the_same(self):
        line = [begin(20, 100)] + [stop(120, 600, 1), stop(120, 600, 1), way(0, 1, 600), way(1, 2, 600), way(2, 0, 600)]
        self.assertEqual(last(line + [need([0, 1])]), [12000 + 12000 + 12000 + 600, 2040])

    def test_a_first_drop_may_need_most(self):
        self.assertEqual(last(THREE + [need([0])]), [230, 70])
        line = [begin(1, 1), stop(1, 600, 1), stop(1, 1, 1)]
        self.assertEqual(last(line + [need([0, 1])]), [630, 92])

    def test_six(self):
        self.assertEqual(last(ALIKE + [need([5, 3, 1, 0, 2, 4])]), [6 * 30 + 5 * 10 + 50, 7 * 30 + 30])


class Mild(unittest.TestCase):
    def test_the_row_that_needs_least(self):
        self.assertEqual(last(THREE + [mild([0, 1, 2])]), [230, 155, 0, 2, 1])
        self.assertEqual(last(THREE + [mild([1, 2, 0])]), [230, 155, 0, 2, 1])

    def test_of_such_the_soonest_home(self):
        line = [begin(1, 1), stop(1, 500, 1), stop(1, 1, 1), stop(1, 1, 1), way(3, 0, 60)]
        self.assertEqual(last(line + [mild([0, 1, 2])]), [530, 123, 0, 2, 1])

    def test_of_such_the_first_as_it_was_asked(self):
        self.assertEqual(last(ALIKE + [mild([3, 1, 2])]), [160, 135, 3, 1, 2])
        self.assertEqual(last(ALIKE + [mild([5, 4, 3, 2, 1, 0])]), [280, 240, 5, 4, 3, 2, 1, 0])
        line = [begin(1, 1), stop(1, 500, 1), stop(1, 1, 1), stop(1, 1, 1)]
        self.assertEqual(last(line + [mild([2, 0, 1])]), [530, 123, 0, 2, 1])
        self.assertEqual(last(line + [mild([1, 0, 2])]), [530, 123, 0, 1, 2])

    def test_least_frost_ahead_of_soonest_home(self):
        line = [begin(1, 1), stop(1, 100, 1), stop(1, 90, 1), way(0, 1, 10), way(2, 0, 600)]
        self.assertEqual(last(line + [mild([1, 0])]), [131, 642, 0, 1])
        self.assertEqual(last(line + [need([1, 0])]), [161, 92])

    def test_one_and_none(self):
        self.assertEqual(last(THREE + [mild([2])]), [180, 65, 2])
        self.assertEqual(last(THREE + [mild([])]), [0, 0])

    def test_a_stop_driven_to_first_that_lies_far(self):
        # The far one first: 100 + 60 = 160, then 100 + 10 + 95 + 50 = 255; the near one first: 5 + 100 + 95 + 60 = 260.
        self.assertEqual(last(FAR + [mild([0, 1])]), [255, 211, 1, 0])

    def test_ways_that_are_not_alike(self):
        line = THREE + [way(1, 3, 90), way(3, 1, 0)]
        self.assertEqual(last(line + [mild([0, 2])]), [30 + 10 + 0 + 200, 75, 2, 0])


class Quick(unittest.TestCase):
    # One first is soonest home, but needs more frost.
    TWO = [begin(1, 1), stop(1, 100, 1), stop(1, 90, 1), way(2, 0, 600)]

    def test_the_soonest_that_is_cold_enough(self):
        self.assertEqual(last(self.TWO + [quick(161, [0, 1])]), [92, 161, 1, 0])
        self.assertEqual(last(self.TWO + [quick(600, [0, 1])]), [92, 161, 1, 0])
        self.assertEqual(last(self.TWO + [quick(160, [0, 1])]), [662, 151, 0, 1])

    def test_just_cold_enough_and_a_tenth_less(self):
        self.assertEqual(last(self.TWO + [quick(151, [0, 1])]), [662, 151, 0, 1])
        check_refused(self, self.TWO, quick(150, [0, 1]), -33)

    def test_of_such_the_one_that_needs_least(self):
        self.assertEqual(last(THREE + [quick(600, [1, 0, 2])]), [155, 230, 0, 2, 1])

    def test_of_such_the_first_as_it_was_asked(self):
        self.assertEqual(last(ALIKE + [quick(600, [4, 0, 2])]), [135, 160, 4, 0, 2])
        line = [begin(1, 1), stop(1, 500, 1), stop(1, 1, 1), stop(1, 1, 1)]
        self.assertEqual(last(line + [quick(600, [2, 0, 1])]), [123, 530, 0, 2, 1])

    def test_one_and_none(self):
        self.assertEqual(last(THREE + [quick(180, [2])]), [65, 180, 2])
        check_refused(self, THREE, quick(179, [2]), -33)
        self.assertEqual(last(THREE + [quick(0, [])]), [0, 0])

    def test_warm_at_once(self):
        check_refused(self, [begin(), stop(1, 1, 1), way(0, 1, 0)], quick(0, [0]), -33)
        self.assertEqual(last([begin(), stop(1, 1, 1), way(0, 1, 0), quick(1, [0])]), [31, 1, 0])

    def test_frost_above_600(self):
        for frost in (601, LARGEST):
            for row in ([], [0], [0, 1]):
                check_refused(self, self.TWO, quick(frost, row), -22)
        line = [begin(20, 100), stop(1, 600, 1), way(0, 1, 0)]
        self.assertEqual(last(line + [quick(600, [0])]), [31, 600, 0])

    def test_frost_ahead_of_what_cannot_be(self):
        check_refused(self, [begin(20, 20), stop(1, 600, 1)], quick(601, [0]), -22)
        check_refused(self, [begin(20, 20), stop(1, 600, 1)], quick(600, [0]), -33)


class Most(unittest.TestCase):
    def test_all_are(self):
        self.assertEqual(last(THREE + [most(230, [0, 1, 2])]), [3, 155, 0, 2, 1])

    def test_a_tenth_less(self):
        # Stop 0 needs 230 even as the first; the two others are cold enough in just the rows that begin with 2.
        self.assertEqual(last(THREE + [most(229, [0, 1, 2])]), [2, 155, 2, 0, 1])

    def test_fewer_and_none(self):
        self.assertEqual(last(THREE + [most(180, [0, 1, 2])]), [2, 155, 2, 1, 0])
        self.assertEqual(last(THREE + [most(179, [0, 1, 2])]), [1, 155, 1, 0, 2])
        self.assertEqual(last(THREE + [most(129, [0, 1, 2])]), [0, 155, 0, 1, 2])
        self.assertEqual(last(THREE + [most(0, [2, 1, 0])]), [0, 155, 2, 1, 0])

    def test_more_ahead_of_soonest_home(self):
        line = Quick.TWO
        self.assertEqual(last(line + [most(151, [0, 1])]), [2, 662, 0, 1])
        self.assertEqual(last(line + [most(150, [0, 1])]), [1, 92, 1, 0])

    def test_of_such_the_soonest_home_then_the_first_as_asked(self):
        line = ALIKE + [way(1, 0, 40), way(2, 0, 40)]
        self.assertEqual(last(line + [most(600, [0, 1, 2, 3])]), [4, 170, 0, 1, 2, 3])
        self.assertEqual(last(line + [most(600, [3, 2, 1, 0])]), [4, 170, 3, 1, 0, 2])
        self.assertEqual(last(ALIKE + [most(600, [5, 1, 3])]), [3, 135, 5, 1, 3])

    def test_what_it_needs_does_not_settle_a_tie(self):
        # Both rows have both drops cold enough and are home alike soon; that asked first needs more.
        line = [begin(1, 1), stop(1, 10, 1), stop(1, 200, 1)]
        self.assertEqual(ask(line + [need([0, 1]), need([1, 0]), most(600, [0, 1])])[-3:],
                         [[261, 92], [230, 92], [2, 92, 0, 1]])

    def test_one_and_none_asked(self):
        self.assertEqual(last(THREE + [most(180, [2])]), [1, 65, 2])
        self.assertEqual(last(THREE + [most(179, [2])]), [0, 65, 2])
        self.assertEqual(last(THREE + [most(0, [])]), [0, 0])

    def test_a_later_drop_may_be_cold_enough_when_the_first_is_not(self):
        line = [begin(1, 1), stop(1, 600, 1), stop(1, 1, 1), way(2, 1, 600)]
        self.assertEqual(last(line + [most(100, [0, 1])]), [1, 92, 0, 1])

    def test_frost_above_600(self):
        for frost in (601, LARGEST):
            for row in ([], [0], [0, 1]):
                check_refused(self, THREE, most(frost, row), -22)


class Drops(unittest.TestCase):
    def test_minutes_and_frost_of_each(self):
        # Lost till the drops: 30; 30 + 20 + 30; 30 + 20 + 30 + 10 + 30.
        self.assertEqual(last(THREE + [drops(300, [0, 2, 1])]), [3, 30, 270, 70, 220, 105, 180])
        self.assertEqual(last(THREE + [drops(300, [1, 2, 0])]), [2, 30, 270, 80, 200, 115, 160])

    def test_just_the_frost_that_is_wanted_and_a_tenth_less(self):
        self.assertEqual(last(THREE + [drops(230, [0, 2, 1])]), [3, 30, 200, 70, 150, 105, 110])
        self.assertEqual(last(THREE + [drops(229, [0, 2, 1])]), [1, 30, 199, 70, 149, 105, 109])
        self.assertEqual(last(THREE + [drops(220, [0, 2, 1])]), [1, 30, 190, 70, 140, 105, 100])
        self.assertEqual(last(THREE + [drops(219, [0, 2, 1])]), [0, 30, 189, 70, 139, 105, 99])

    def test_the_row_is_taken_as_it_is_asked(self):
        self.assertEqual(last(THREE + [drops(230, [1, 2, 0])]), [1, 30, 200, 80, 130, 115, 90])

    def test_a_row_of_one(self):
        self.assertEqual(last(THREE + [drops(180, [2])]), [1, 30, 150])
        self.assertEqual(last(THREE + [drops(179, [2])]), [0, 30, 149])

    def test_the_empty_row(self):
        for frost in (0, 1, 600):
            self.assertEqual(last(THREE + [drops(frost, [])]), [0])
        self.assertEqual(last([begin(), drops(0, [])]), [0])

    def test_never_less_than_none(self):
        self.assertEqual(last(THREE + [drops(81, [0, 2, 1])]), [0, 30, 51, 70, 1, 105, 0])
        self.assertEqual(last(THREE + [drops(80, [0, 2, 1])]), [0, 30, 50, 70, 0, 105, 0])
        self.assertEqual(last(THREE + [drops(79, [0, 2, 1])]), [0, 30, 49, 70, 0, 105, 0])
        self.assertEqual(last(THREE + [drops(0, [1, 2])]), [0, 30, 0, 80, 0])

    def test_a_stop_that_wants_but_a_tenth(self):
        line = [begin(1, 1), stop(1, 1, 1)]
        self.assertEqual(last(line + [drops(31, [0])]), [1, 30, 1])
        self.assertEqual(last(line + [drops(30, [0])]), [0, 30, 0])
        self.assertEqual(last(line + [drops(29, [0])]), [0, 30, 0])

    def test_warm_at_once(self):
        line = [begin(1, 1), stop(1, 1, 1), way(0, 1, 0)]
        self.assertEqual(last(line + [drops(0, [0])]), [0, 0, 0])
        self.assertEqual(last(line + [drops(1, [0])]), [1, 0, 1])

    def test_what_is_lost_at_the_last_door_does_not_count(self):
        self.assertEqual(last([begin(1, 100), stop(120, 1, 1), drops(31, [0])]), [1, 30, 1])

    def test_ways_that_are_not_alike(self):
        line = THREE + [way(1, 3, 90), way(3, 1, 0)]
        self.assertEqual(last(line + [drops(600, [0, 2])]), [2, 30, 570, 130, 460])
        self.assertEqual(last(line + [drops(600, [2, 0])]), [2, 30, 570, 35, 560])

    def test_a_stop_driven_to_first_that_lies_far(self):
        self.assertEqual(last(FAR + [drops(255, [1, 0])]), [2, 100, 155, 196, 50])
        self.assertEqual(last(FAR + [drops(255, [0, 1])]), [1, 5, 250, 110, 55])

    def test_a_later_drop_may_be_cold_enough_when_the_first_is_not(self):
        line = [begin(1, 1), stop(1, 600, 1), stop(1, 1, 1)]
        self.assertEqual(last(line + [drops(100, [0, 1])]), [1, 30, 70, 61, 39])

    def test_six(self):
        self.assertEqual(last(ALIKE + [drops(280, [5, 3, 1, 0, 2, 4])]),
                         [6, 30, 250, 65, 210, 100, 170, 135, 130, 170, 90, 205, 50])
        self.assertEqual(last(ALIKE + [drops(279, [5, 3, 1, 0, 2, 4])])[0], 5)

    def test_no_room_is_no_matter(self):
        line = [begin(1, 1, 1), stop(1, 1, 9), stop(1, 1, 9)]
        self.assertEqual(last(line + [drops(600, [0, 1])]), [2, 30, 570, 61, 539])

    def test_frost_above_600(self):
        for frost in (601, LARGEST):
            for row in ([], [0], [0, 1]):
                check_refused(self, THREE, drops(frost, row), -22)
        self.assertEqual(last(THREE + [drops(600, [0])]), [1, 30, 570])

    def test_from_the_works_wherever_the_lorry_is(self):
        line = THREE + [load(100, [1, 2]), drive(2), wait(9)]
        for row in ([2, 1], [0], []):
            self.assertEqual(last(line + [drops(300, row)]), last(THREE + [drops(300, row)]))


class Asked(unittest.TestCase):
    def test_a_question_changes_nothing(self):
        before = THREE + [load(300, [1, 2]), drive(2)]
        after = [drive(1), back()]
        plain = ask(before + after)[-2:]
        for call in (need([0, 1]), mild([0, 1, 2]), quick(600, [1, 2]), most(50, [2, 0]), drops(50, [2, 0])):
            self.assertEqual(ask(before + [call] + after)[-2:], plain)


if __name__ == "__main__":
    unittest.main()
