"""Point 4: now, left, slack, mins, look."""

import unittest

from tests.helper import (
    LARGEST, ask, back, begin, check_refused, done, drive, last, left, load, look, mins, now, slack, state, stop, sums,
    wait, warm, way)

FOUR = [begin(2, 3, 1000), stop(5, 50, 100), stop(6, 60, 200), stop(7, 70, 300), stop(8, 80, 400)]
# At stop 0 with 225 tenths: 3 and then 1 need 204, 1 and then 3 need 218; both are home in 104 minutes.
AT_A_STOP = FOUR + [load(300, [3, 1, 0]), drive(0)]
# Stop 1 first needs 161 and is home in 92 minutes; stop 0 first needs 151 and is home in 662.
TWO = [begin(1, 1), stop(1, 100, 1), stop(1, 90, 1), way(2, 0, 600)]
ALIKE = [begin(1, 2)] + [stop(5, 50, 1)] * 6
TENTH = [begin(1, 1), stop(1, 1, 1), way(0, 1, 0)]


class Nothing(unittest.TestCase):
    def check(self, line):
        for call in (now(), slack()):
            check_refused(self, line, call, -6)

    def test_before_a_load(self):
        self.check([begin()])
        self.check(FOUR)
        self.check(FOUR + [wait(9)])

    def test_behind_the_last_drop(self):
        self.check(FOUR + [load(300, [2]), drive(2)])
        self.check(AT_A_STOP + [drive(3), drive(1)])

    def test_back_at_the_works(self):
        self.check(FOUR + [load(300, [2]), drive(2), back()])

    def test_behind_a_load_that_was_refused(self):
        self.check(FOUR + [load(300, [])])
        self.check(FOUR + [stop(1, 1, 1), load(300, [0, 1, 2, 3, 4])])

    def test_begun_again(self):
        self.check(AT_A_STOP + [begin()])


class Now(unittest.TestCase):
    def test_at_the_works(self):
        self.assertEqual(last(TWO + [load(600, [0, 1]), now()]), [92, 1, 0])
        self.assertEqual(last(TWO + [load(161, [0, 1]), now()]), [92, 1, 0])

    def test_the_soonest_may_be_too_warm(self):
        self.assertEqual(last(TWO + [load(160, [0, 1]), now()]), [662, 0, 1])

    def test_just_cold_enough_and_a_tenth_less(self):
        self.assertEqual(last(TWO + [load(151, [0, 1]), now()]), [662, 0, 1])
        check_refused(self, TWO + [load(150, [0, 1])], now(), -33)

    def test_with_the_frost_that_is_left(self):
        line = TWO + [load(171, [0, 1])]
        self.assertEqual(last(line + [wait(10), now()]), [92, 1, 0])
        self.assertEqual(last(line + [wait(11), now()]), [662, 0, 1])
        self.assertEqual(last(line + [wait(20), now()]), [662, 0, 1])
        check_refused(self, line + [wait(21)], now(), -33)

    def test_at_a_stop(self):
        self.assertEqual(last(AT_A_STOP + [now()]), [104, 3, 1])

    def test_from_here_and_not_from_the_works(self):
        self.assertEqual(last(AT_A_STOP + [way(0, 4, 600), way(0, 2, 600), now()]), [104, 3, 1])
        self.assertEqual(last(AT_A_STOP + [way(1, 4, 40), now()]), [104, 1, 3])
        self.assertEqual(last(AT_A_STOP + [way(1, 4, 0), now()]), [74, 3, 1])

    def test_at_a_stop_just_cold_enough_and_a_tenth_less(self):
        # Of the 225, 1 and then 3 can spare 7, 3 and then 1 can spare 21; a minute costs 2.
        self.assertEqual(last(AT_A_STOP + [way(2, 0, 60), wait(3), now()]), [104, 1, 3])
        self.assertEqual(last(AT_A_STOP + [way(2, 0, 60), wait(4), now()]), [134, 3, 1])
        self.assertEqual(last(AT_A_STOP + [wait(10), now()]), [104, 3, 1])
        check_refused(self, AT_A_STOP + [wait(11)], now(), -33)

    def test_of_such_the_one_that_needs_least(self):
        line = [begin(1, 1), stop(1, 500, 1), stop(1, 1, 1), stop(1, 1, 1)]
        self.assertEqual(last(line + [load(600, [2, 0, 1]), now()]), [123, 0, 2, 1])
        self.assertEqual(last(line + [load(600, [1, 2, 0]), now()]), [123, 0, 1, 2])

    def test_of_such_the_first_in_what_is_left_as_it_was_told(self):
        line = ALIKE + [load(600, [4, 0, 2, 5])]
        self.assertEqual(last(line + [now()]), [170, 4, 0, 2, 5])
        self.assertEqual(last(line + [drive(0), now()]), [135, 4, 2, 5])
        self.assertEqual(last(line + [drive(4), now()]), [135, 0, 2, 5])
        self.assertEqual(last(line + [drive(5), drive(4), now()]), [100, 0, 2])

    def test_one(self):
        self.assertEqual(last(FOUR + [load(110, [0]), now()]), [65, 0])
        check_refused(self, FOUR + [load(109, [0])], now(), -33)
        self.assertEqual(last(AT_A_STOP + [drive(3), now()]), [66, 1])

    def test_six(self):
        self.assertEqual(last(ALIKE + [load(280, [5, 4, 3, 2, 1, 0]), now()]), [240, 5, 4, 3, 2, 1, 0])
        check_refused(self, ALIKE + [load(279, [5, 4, 3, 2, 1, 0])], now(), -33)

    def test_a_drop_that_was_too_warm_is_no_matter_any_more(self):
        line = [begin(1, 1), stop(1, 600, 1), stop(1, 1, 1), load(100, [0, 1])]
        check_refused(self, line, now(), -33)
        self.assertEqual(last(line + [drive(0), now()]), [61, 1])

    def test_a_stop_that_wants_but_a_tenth(self):
        line = [begin(1, 1), stop(1, 1, 1)]
        self.assertEqual(last(line + [load(31, [0]), now()]), [61, 0])
        check_refused(self, line + [load(30, [0])], now(), -33)

    def test_warm_at_once(self):
        self.assertEqual(last(TENTH + [load(1, [0]), now()]), [31, 0])
        check_refused(self, TENTH + [load(0, [0])], now(), -33)

    def test_a_wait_that_costs_the_last_tenth(self):
        check_refused(self, TENTH + [load(1, [0]), wait(1)], now(), -33)
        check_refused(self, TENTH + [load(1, [0]), wait(600)], now(), -33)

    def test_ways_that_are_not_alike(self):
        line = [begin(1, 1), stop(1, 10, 1), stop(1, 10, 1), way(1, 2, 100), way(2, 1, 10), way(1, 0, 70)]
        self.assertEqual(last(line + [load(600, [0, 1]), now()]), [30 + 1 + 10 + 1 + 70, 1, 0])

    def test_a_stop_driven_to_first_that_lies_far(self):
        line = [begin(1, 10), stop(10, 50, 1), stop(1, 60, 1), way(0, 1, 5), way(0, 2, 100), way(1, 2, 95),
                way(2, 1, 95), way(1, 0, 5), way(2, 0, 100)]
        self.assertEqual(last(line + [load(259, [0, 1]), now()]), [211, 1, 0])
        self.assertEqual(last(line + [load(255, [0, 1]), now()]), [211, 1, 0])
        check_refused(self, line + [load(254, [0, 1])], now(), -33)

    def test_stops_that_are_not_loaded_are_no_matter(self):
        self.assertEqual(last(AT_A_STOP + [stop(1, 1, 1), now()]), [104, 3, 1])


class Left(unittest.TestCase):
    def test_nothing(self):
        self.assertEqual(last([begin(), left()]), [0])
        self.assertEqual(last(FOUR + [left()]), [0])
        self.assertEqual(last(FOUR + [load(300, [2]), drive(2), left()]), [0])
        self.assertEqual(last(FOUR + [load(300, [2]), drive(2), back(), left()]), [0])

    def test_as_they_were_told(self):
        self.assertEqual(last(ALIKE + [load(600, [5, 1, 3, 0]), left()]), [4, 5, 1, 3, 0])
        self.assertEqual(last(ALIKE + [load(600, [5, 4, 3, 2, 1, 0]), left()]), [6, 5, 4, 3, 2, 1, 0])
        self.assertEqual(last(ALIKE + [load(0, [2]), left()]), [1, 2])

    def test_behind_a_drop(self):
        line = ALIKE + [load(600, [5, 1, 3, 0])]
        self.assertEqual(last(line + [drive(5), left()]), [3, 1, 3, 0])
        self.assertEqual(last(line + [drive(1), left()]), [3, 5, 3, 0])
        self.assertEqual(last(line + [drive(3), left()]), [3, 5, 1, 0])
        self.assertEqual(last(line + [drive(0), left()]), [3, 5, 1, 3])
        self.assertEqual(last(line + [drive(3), drive(5), left()]), [2, 1, 0])
        self.assertEqual(last(line + [drive(3), drive(5), drive(0), left()]), [1, 1])

    def test_of_the_load_that_was_told_last(self):
        line = ALIKE + [load(600, [2, 1]), drive(1), drive(2), back(), load(600, [1, 4, 2])]
        self.assertEqual(last(line + [left()]), [3, 1, 4, 2])
        self.assertEqual(last(line + [drive(4), left()]), [2, 1, 2])

    def test_a_refused_load_is_none(self):
        self.assertEqual(last(AT_A_STOP + [load(300, [0, 2]), left()]), [2, 3, 1])


class Slack(unittest.TestCase):
    def test_at_the_works(self):
        self.assertEqual(last(TWO + [load(152, [0, 1]), slack()]), [1])
        self.assertEqual(last(TWO + [load(600, [0, 1]), slack()]), [449])

    def test_none_and_not_any_more(self):
        self.assertEqual(last(TWO + [load(151, [0, 1]), slack()]), [0])
        check_refused(self, TWO + [load(150, [0, 1])], slack(), -33)

    def test_in_some_row_and_not_in_the_soonest(self):
        self.assertEqual(ask(TWO + [load(170, [0, 1]), now(), slack()])[-2:], [[92, 1, 0], [19]])

    def test_whole_minutes(self):
        line = [begin(3, 3), stop(1, 10, 1)]
        for frost, minutes in ((100, 0), (102, 0), (103, 1), (105, 1), (106, 2)):
            self.assertEqual(last(line + [load(frost, [0]), slack()]), [minutes])
        check_refused(self, line + [load(99, [0])], slack(), -33)

    def test_at_a_stop(self):
        # 225 tenths, 204 needed, two a minute.
        self.assertEqual(last(AT_A_STOP + [slack()]), [10])
        self.assertEqual(last(AT_A_STOP + [drive(3), slack()]), [(225 - 60 - 24 - 60 - 60) // 2])

    def test_from_here_and_not_from_the_works(self):
        self.assertEqual(last(AT_A_STOP + [way(0, 4, 600), way(0, 2, 600), slack()]), [10])
        self.assertEqual(last(AT_A_STOP + [way(1, 4, 29), slack()]), [11])

    def test_less_by_each_minute_waited(self):
        self.assertEqual(ask(AT_A_STOP + [wait(1), slack(), wait(7), slack(), wait(2), slack(), wait(1), slack()])[-8:],
                         [[36, 223], [9], [43, 209], [2], [45, 205], [0], [46, 203], [-33]])

    def test_so_long_one_may_wait_and_a_minute_more_not(self):
        for line, minutes in ((AT_A_STOP, 10), (TWO + [load(170, [0, 1])], 19), (TENTH + [load(600, [0])], 599)):
            self.assertEqual(last(line + [slack()]), [minutes])
            told = ask(line + [wait(minutes), slack(), now(), wait(1), slack(), now()])[-6:]
            self.assertEqual(told[1], [0])
            self.assertGreaterEqual(told[2][0], 0)
            self.assertEqual(told[4:], [[-33], [-33]])

    def test_warm_at_once(self):
        check_refused(self, TENTH + [load(0, [0])], slack(), -33)
        self.assertEqual(last(TENTH + [load(1, [0]), slack()]), [0])
        self.assertEqual(last(TENTH + [load(2, [0]), slack()]), [1])

    def test_a_wait_that_costs_the_last_tenth(self):
        line = [begin(2, 2), stop(1, 1, 1), way(0, 1, 0), load(4, [0])]
        self.assertEqual(ask(line + [slack(), wait(1), slack(), wait(1), slack()])[-5:],
                         [[1], [1, 2], [0], [2, 0], [-33]])

    def test_six(self):
        self.assertEqual(last(ALIKE + [load(300, [5, 4, 3, 2, 1, 0]), slack()]), [20])

    def test_a_drop_that_was_too_warm_is_no_matter_any_more(self):
        line = [begin(1, 1), stop(1, 600, 1), stop(1, 1, 1), load(100, [0, 1])]
        check_refused(self, line, slack(), -33)
        self.assertEqual(last(line + [drive(0), slack()]), [38])


class Mins(unittest.TestCase):
    def test_at_first(self):
        self.assertEqual(last(FOUR + [mins(0, 1)]), [30])
        self.assertEqual(last(FOUR + [mins(4, 0)]), [30])
        self.assertEqual(last(FOUR + [mins(3, 4)]), [30])

    def test_to_itself(self):
        for place in range(5):
            self.assertEqual(last(FOUR + [mins(place, place)]), [0])
        self.assertEqual(last([begin(), mins(0, 0)]), [0])
        self.assertEqual(last(FOUR + [way(1, 1, 9), mins(1, 1)]), [0])

    def test_a_way_that_was_told(self):
        for minutes in (0, 1, 29, 31, 600):
            self.assertEqual(last(FOUR + [way(2, 3, minutes), mins(2, 3)]), [minutes])
        self.assertEqual(last(FOUR + [way(2, 3, 5), way(2, 3, 6), mins(2, 3)]), [6])
        self.assertEqual(last(FOUR + [way(2, 3, 5), way(2, 3, 601), mins(2, 3)]), [5])

    def test_there_and_back_are_two(self):
        self.assertEqual(ask(FOUR + [way(2, 3, 5), mins(3, 2), mins(2, 3), mins(2, 4), mins(1, 3)])[-4:],
                         [[30], [5], [30], [30]])

    def test_a_new_stop(self):
        line = FOUR + [way(4, 0, 5), mins(4, 5), stop(), mins(4, 5), mins(5, 4), mins(5, 5), mins(4, 0)]
        self.assertEqual(ask(line)[6:], [[-2], [4], [30], [30], [0], [5]])

    def test_no_such_place(self):
        for call in (mins(5, 0), mins(0, 5), mins(5, 5), mins(4, 5), mins(LARGEST, 0), mins(0, LARGEST),
                     mins(LARGEST, LARGEST)):
            check_refused(self, FOUR, call, -2)
        for call in (mins(0, 1), mins(1, 0), mins(1, 1)):
            check_refused(self, [begin()], call, -2)


class Look(unittest.TestCase):
    def test_minutes_frost_and_litres(self):
        self.assertEqual(ask(FOUR + [look(0), look(1), look(2), look(3)])[-4:],
                         [[5, 50, 100], [6, 60, 200], [7, 70, 300], [8, 80, 400]])
        self.assertEqual(ask([begin(), stop(1, 1, 1), stop(120, 600, 10000), look(0), look(1)])[-2:],
                         [[1, 1, 1], [120, 600, 10000]])

    def test_no_such_stop(self):
        for number in (4, 5, 7, LARGEST):
            check_refused(self, FOUR, look(number), -2)
        check_refused(self, [begin()], look(0), -2)
        check_refused(self, FOUR + [begin()], look(0), -2)

    def test_seven(self):
        line = [begin()] + [stop(1, 1 + s, 2) for s in range(7)] + [stop(9, 9, 9)]
        self.assertEqual(last(line + [look(6)]), [1, 7, 2])
        check_refused(self, line, look(7), -2)

    def test_a_stop_that_was_driven_to_is_as_it_was(self):
        self.assertEqual(last(AT_A_STOP + [look(0)]), [5, 50, 100])


class Asked(unittest.TestCase):
    def test_a_question_changes_nothing(self):
        questions = [now(), left(), slack(), mins(0, 1), mins(1, 1), look(0), done(), warm(), sums(), state()]
        for line in (FOUR, AT_A_STOP, AT_A_STOP + [wait(11)], AT_A_STOP + [drive(3), drive(1), back()]):
            after = questions + [drive(3), drive(1), back()] + questions
            plain = ask(line + after)[len(line):]
            self.assertEqual(ask(line + questions + after)[len(line) + len(questions):], plain)


if __name__ == "__main__":
    unittest.main()
