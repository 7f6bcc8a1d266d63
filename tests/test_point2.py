"""Point 2: load, drive, back, wait."""

import unittest

from tests.helper import LARGEST, ask, back, begin, check_refused, drive, last, load, need, stop, wait, way

# Room for just the litres of the four.
FOUR = [begin(2, 3, 1000), stop(5, 50, 100), stop(6, 60, 200), stop(7, 70, 300), stop(8, 80, 400)]
FAR = FOUR + [load(300, [2, 0]), drive(2)]
HOME_AGAIN = FAR + [drive(0), back()]


class Load(unittest.TestCase):
    def test_litres(self):
        self.assertEqual(last(FOUR + [load(300, [2, 0])]), [400])
        self.assertEqual(last(FOUR + [load(0, [3])]), [400])
        self.assertEqual(last(FOUR + [load(600, [1])]), [200])

    def test_room_for_the_last_litre(self):
        self.assertEqual(last(FOUR + [load(300, [0, 1, 2, 3])]), [1000])

    def test_no_room_for_the_last_litre(self):
        check_refused(self, FOUR + [stop(1, 1, 1)], load(300, [0, 1, 2, 3, 4]), -28)
        check_refused(self, [begin(1, 1, 99), stop(1, 1, 100)], load(300, [0]), -28)

    def test_empty_row(self):
        check_refused(self, FOUR, load(300, []), -22)
        check_refused(self, FAR, load(300, []), -22)

    def test_frost_above_600(self):
        for frost in (601, LARGEST):
            check_refused(self, FOUR, load(frost, [0]), -22)
            check_refused(self, FAR, load(frost, [0]), -22)

    def test_something_is_to_be_driven_to_yet(self):
        check_refused(self, FOUR + [load(300, [2, 0])], load(300, [1]), -16)
        check_refused(self, FAR, load(300, [1]), -16)

    def test_the_lorry_is_not_back(self):
        check_refused(self, FAR + [drive(0)], load(300, [1]), -16)
        self.assertEqual(last(HOME_AGAIN + [load(300, [1])]), [200])

    def test_not_now_ahead_of_no_room(self):
        line = FOUR + [stop(1, 1, 1), load(300, [2])]
        check_refused(self, line, load(300, [0, 1, 2, 3, 4]), -16)
        check_refused(self, line + [drive(2)], load(300, [0, 1, 2, 3, 4]), -16)

    def test_rows_ahead_of_not_now(self):
        check_refused(self, FAR, load(300, [9]), -2)
        check_refused(self, FAR, load(300, [9, 9]), -22)

    def test_takes_no_minute(self):
        self.assertEqual(ask(FOUR + [wait(7), load(300, [0]), wait(1)])[-3:], [[7, 0], [100], [8, 298]])

    def test_the_same_stop_again_with_another_load(self):
        self.assertEqual(ask(HOME_AGAIN + [load(90, [0]), drive(0), drive(0)])[-3:], [[100], [30, 132, 20], [-2]])


class Drive(unittest.TestCase):
    def test_frost_minute_and_tenths_too_warm(self):
        line = FOUR + [way(0, 3, 20), way(3, 1, 40), load(160, [2, 0]), drive(2), drive(0), wait(1)]
        # 160 - 40 = 120; behind 7 minutes at 3 and 40 at 2 it is 120 - 21 - 80 = 19, so 31 too warm.
        self.assertEqual(ask(line)[-3:], [[120, 20, 0], [19, 67, 31], [73, 2]])

    def test_just_the_frost_that_is_wanted(self):
        self.assertEqual(last(FOUR + [load(110, [0]), drive(0)]), [50, 30, 0])
        self.assertEqual(last(FOUR + [load(109, [0]), drive(0)]), [49, 30, 1])

    def test_never_less_than_none(self):
        self.assertEqual(ask(FOUR + [load(10, [0, 1]), drive(0), drive(1)])[-2:], [[0, 30, 50], [0, 65, 60]])
        self.assertEqual(ask(FOUR + [load(65, [0, 1]), drive(0), wait(1)])[-2:], [[5, 30, 45], [36, 0]])

    def test_warm_at_once(self):
        line = [begin(1, 1), stop(1, 1, 1), way(0, 1, 0), load(0, [0]), drive(0)]
        self.assertEqual(last(line), [0, 0, 1])

    def test_a_stop_that_wants_but_a_tenth(self):
        line = [begin(1, 1), stop(1, 1, 1)]
        self.assertEqual(last(line + [load(31, [0]), drive(0)]), [1, 30, 0])
        self.assertEqual(last(line + [load(30, [0]), drive(0)]), [0, 30, 1])

    def test_in_another_row_than_told(self):
        line = FOUR + [load(300, [3, 1, 0]), drive(0), drive(3), drive(1), back()]
        self.assertEqual(ask(line)[-4:], [[240, 30, 0], [165, 65, 0], [81, 103, 0], [139]])

    def test_ways_that_are_not_alike(self):
        ways = [way(0, 1, 10), way(1, 0, 99), way(1, 2, 20), way(2, 1, 88), way(2, 0, 33), way(0, 2, 77)]
        there = FOUR + ways + [load(400, [0, 1]), drive(0), drive(1), back()]
        self.assertEqual(ask(there)[-3:], [[380, 10, 0], [325, 35, 0], [74]])
        other = FOUR + ways + [load(400, [0, 1]), drive(1), drive(0), back()]
        self.assertEqual(ask(other)[-3:], [[246, 77, 0], [52, 171, 0], [275]])

    def test_not_to_be_driven_to(self):
        for number in (1, 3, 4, LARGEST):
            check_refused(self, FAR, drive(number), -2)
        check_refused(self, FOUR, drive(0), -2)

    def test_each_but_once(self):
        check_refused(self, FAR, drive(2), -2)
        check_refused(self, FAR + [drive(0)], drive(0), -2)
        check_refused(self, HOME_AGAIN, drive(0), -2)


class Back(unittest.TestCase):
    def test_which_minute(self):
        self.assertEqual(last(HOME_AGAIN), [102])
        self.assertEqual(last(FAR[:-2] + [load(300, [2]), drive(2), way(3, 0, 0), back()]), [37])

    def test_it_is_at_the_works(self):
        check_refused(self, FOUR, back(), -17)
        check_refused(self, HOME_AGAIN, back(), -17)

    def test_at_the_works_ahead_of_something_to_do(self):
        check_refused(self, FOUR + [load(300, [0])], back(), -17)

    def test_something_is_to_be_driven_to_yet(self):
        check_refused(self, FAR, back(), -16)

    def test_the_way_back_is_lost_on_too(self):
        self.assertEqual(last(FOUR + [load(300, [0]), drive(0), back(), wait(1)]), [66, 300 - 60 - 15 - 60 - 2])


class Wait(unittest.TestCase):
    def test_minute_and_frost(self):
        self.assertEqual(ask(FOUR + [load(300, [0]), wait(1), wait(99)])[-2:], [[1, 298], [100, 100]])
        self.assertEqual(last(FOUR + [wait(600)]), [600, 0])

    def test_at_a_stop_the_door_is_shut(self):
        self.assertEqual(last(FAR + [wait(10)]), [47, 300 - 60 - 21 - 20])

    def test_a_wait_that_costs_the_last_tenth(self):
        line = [begin(1, 9), stop(), load(50, [0])]
        self.assertEqual(ask(line + [wait(49), wait(1), wait(1)])[-3:], [[49, 1], [50, 0], [51, 0]])
        line = [begin(3, 9), stop(), load(50, [0])]
        self.assertEqual(ask(line + [wait(16), wait(1)])[-2:], [[16, 2], [17, 0]])

    def test_a_wait_makes_the_next_drop_too_warm(self):
        self.assertEqual(last(FOUR + [load(112, [0]), wait(1), drive(0)]), [50, 31, 0])
        self.assertEqual(last(FOUR + [load(112, [0]), wait(2), drive(0)]), [48, 32, 2])

    def test_out_of_range(self):
        for minutes in (0, 601, LARGEST):
            check_refused(self, FAR, wait(minutes), -22)
            check_refused(self, FOUR, wait(minutes), -22)

    def test_a_row_is_asked_from_the_works_wherever_the_lorry_is(self):
        self.assertEqual(last(FAR + [wait(9), need([0])]), last(FOUR + [need([0])]))


if __name__ == "__main__":
    unittest.main()
