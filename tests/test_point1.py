"""Point 1: begin, stop, way, and the refusals of rows."""

import unittest

from tests.helper import (
    LARGEST, ask, back, begin, check_refused, done, drive, drops, last, left, load, look, mild, mins, most, need, now,
    quick, slack, state, stop, sums, wait, warm, way)

# Room for just the litres of the four, so that a changed room shows.
FOUR = [begin(2, 3, 1000), stop(5, 50, 100), stop(6, 60, 200), stop(7, 70, 300), stop(8, 80, 400)]


class Begin(unittest.TestCase):
    def test_in_range(self):
        for call in (begin(1, 1, 1), begin(1, 100, 1), begin(20, 20, 1), begin(20, 100, 100000), begin(7, 7, 50)):
            self.assertEqual(last([call]), [0])

    def test_out_of_range(self):
        for call in (begin(0, 5, 5), begin(21, 30, 5), begin(5, 4, 5), begin(5, 101, 5), begin(20, 19, 5),
                     begin(1, 0, 5), begin(5, 5, 0), begin(5, 5, 100001), begin(LARGEST, LARGEST, 5),
                     begin(5, LARGEST, 5), begin(5, 5, LARGEST), begin(0, 0, 0)):
            self.assertEqual(last([call]), [-22])
            check_refused(self, FOUR + [way(0, 1, 9), load(300, [0, 1]), drive(1)], call, -22)

    def test_all_others_before_it(self):
        others = [stop(), way(0, 0, 0), load(1, [0]), drive(0), back(), wait(1), need([]), mild([]), quick(1, []),
                  most(1, []), drops(1, []), now(), left(), slack(), mins(0, 0), look(0), done(), warm(), sums(),
                  state()]
        self.assertEqual(ask(others), [[-11]] * 20)
        self.assertEqual(ask([begin(0)] + others), [[-22]] + [[-11]] * 20)

    def test_not_begun_ahead_of_all_else(self):
        wrong = [stop(0, 0, 0), way(9, 9, 999), load(999, [0] * 10), drive(9), wait(0), need([8, 8]), mild([9]),
                 quick(999, [0] * 7), most(999, [9]), drops(999, [9, 9]), mins(9, 0), look(9)]
        self.assertEqual(ask(wrong), [[-11]] * len(wrong))

    def test_a_refused_begin_is_no_begin(self):
        self.assertEqual(ask([begin(0), stop(), begin(), stop()]), [[-22], [-11], [0], [0]])

    def test_at_first(self):
        self.assertEqual(ask([begin(), back(), wait(1), need([]), drive(0), need([0])]),
                         [[0], [-17], [1, 0], [0, 0], [-2], [-2]])
        self.assertEqual(ask([begin(), state(), left(), done(), warm(), sums(), now(), slack(), mins(0, 0), look(0)]),
                         [[0], [0, 0, 0, 0, 0], [0], [0], [0, 0, 0], [0, 0, 0, 0, 0], [-6], [-6], [0], [-2]])

    def test_again_there_is_nothing(self):
        line = FOUR + [way(0, 1, 9), load(300, [0, 1]), drive(1), begin(1, 2, 99)]
        after = [back(), drive(0), wait(5), need([0]), stop(1, 10, 100), way(0, 1, 8), load(50, [0])]
        self.assertEqual(ask(line + after)[len(line) - 1:],
                         [[0], [-17], [-2], [5, 0], [-2], [0], [30], [-28]])

    def test_again_all_that_is_told_is_new(self):
        questions = [state(), left(), done(), warm(), sums(), now(), slack(), mins(0, 1), look(0), drops(9, []),
                     drops(9, [0])]
        used = FOUR + [load(100, [1, 0]), drive(1), drive(0), back(), load(600, [3, 2]), drive(3), way(0, 1, 9)]
        told = ask(used + questions + [begin(0)] + questions + [begin(1, 2, 99)] + questions)
        told = told[len(used):]
        self.assertEqual(told[:11], [
            [139, 4, 4, 1, 516], [1, 2], [3, 1, 30, 40, 20, 0, 66, 0, 50, 3, 131, 540, 0], [2, 70, 50],
            [0, 2, 3, 700, 139], [67, 2], [193], [9], [5, 50, 100], [0], [0, 9, 0]])
        self.assertEqual(told[11:23], [[-22]] + told[:11])
        self.assertEqual(told[23:], [[0], [0, 0, 0, 0, 0], [0], [0], [0, 0, 0], [0, 0, 0, 0, 0], [-6], [-6], [-2],
                                     [-2], [0], [-2]])

    def test_again_with_other_losses(self):
        line = FOUR + [begin(3, 5, 99), stop(4, 10, 9), stop(4, 10, 9), need([0]), need([0, 1])]
        self.assertEqual(ask(line)[-2:], [[100, 64], [90 + 20 + 90 + 10, 98]])


class Stops(unittest.TestCase):
    def test_in_range(self):
        for call in (stop(1, 1, 1), stop(120, 600, 10000)):
            self.assertEqual(last([begin(), call]), [0])

    def test_out_of_range(self):
        for call in (stop(0, 1, 1), stop(121, 1, 1), stop(1, 0, 1), stop(1, 601, 1), stop(1, 1, 0), stop(1, 1, 10001),
                     stop(LARGEST, 1, 1), stop(1, LARGEST, 1), stop(1, 1, LARGEST)):
            check_refused(self, FOUR, call, -22)
            check_refused(self, [begin()], call, -22)

    def test_numbers(self):
        self.assertEqual(ask([begin()] + [stop()] * 7), [[0], [0], [1], [2], [3], [4], [5], [6]])

    def test_an_eighth(self):
        check_refused(self, [begin()] + [stop()] * 7, stop(), -28)
        check_refused(self, [begin()] + [stop()] * 7, stop(0), -22)

    def test_one_more_while_driving(self):
        line = FOUR + [load(300, [0, 1]), drive(1), stop(), drive(0)]
        self.assertEqual(ask(line)[-2:], [[4], [162, 66, 0]])

    def test_a_new_stop_keeps_the_ways(self):
        line = [begin(), stop(), way(0, 1, 9), stop(), way(0, 1, 8), way(0, 2, 7), way(2, 1, 6)]
        self.assertEqual(ask(line)[-3:], [[9], [30], [30]])


class Ways(unittest.TestCase):
    def test_how_many_they_were(self):
        line = FOUR + [way(0, 1, 10), way(0, 1, 600), way(0, 1, 0), way(0, 1, 5), way(1, 0, 5), way(4, 3, 5)]
        self.assertEqual(ask(line)[5:], [[30], [10], [600], [0], [30], [30]])

    def test_no_such_place(self):
        for call in (way(5, 0, 1), way(0, 5, 1), way(5, 5, 1), way(0, 5, 601), way(LARGEST, 0, 1), way(0, LARGEST, 1)):
            check_refused(self, FOUR, call, -2)
        self.assertEqual(last([begin(), way(0, 1, 1)]), [-2])

    def test_out_of_range(self):
        for call in (way(0, 0, 1), way(4, 4, 0), way(2, 2, 700), way(0, 1, 601), way(1, 0, LARGEST)):
            check_refused(self, FOUR, call, -22)
        self.assertEqual(last([begin(), way(0, 0, 0)]), [-22])

    def test_there_and_back_are_two(self):
        line = [begin(1, 1, 9), stop(5, 10, 1), way(0, 1, 7), way(1, 0, 100), need([0])]
        self.assertEqual(last(line), [17, 112])

    def test_from_now_on_for_the_lorry_too(self):
        line = [begin(1, 1, 9), stop(5, 10, 1), load(100, [0]), way(0, 1, 7), drive(0), way(1, 0, 11), back()]
        self.assertEqual(ask(line)[4:], [[93, 7, 0], [30], [23]])

    def test_none_at_all(self):
        line = [begin(1, 1, 9), stop(5, 10, 1), way(0, 1, 0), way(1, 0, 0), need([0]), load(10, [0]), drive(0), back()]
        self.assertEqual(ask(line)[4:], [[10, 5], [1], [10, 0, 0], [5]])


class Rows(unittest.TestCase):
    def asked(self, row):
        return (need(row), mild(row), quick(600, row), most(600, row), drops(600, row), load(600, row))

    def test_six_are_taken(self):
        line = [begin(1, 1)] + [stop(1, 1, 1)] * 7
        for call in self.asked([6, 5, 4, 3, 2, 1]):
            self.assertGreater(last(line + [call])[0], 0, call)

    def test_too_many(self):
        line = [begin(1, 1)] + [stop(1, 1, 1)] * 7
        for row in ([0, 1, 2, 3, 4, 5, 6], list(range(10))):
            for call in self.asked(row):
                check_refused(self, line, call, -22)

    def test_told_twice(self):
        for row in ([0, 0], [1, 2, 3, 1], [3, 0, 1, 2, 0], [0, 1, 1]):
            for call in self.asked(row):
                check_refused(self, FOUR, call, -22)

    def test_no_such_stop(self):
        for row in ([4], [0, 1, 4], [LARGEST], [4, 0]):
            for call in self.asked(row):
                check_refused(self, FOUR, call, -2)

    def test_out_of_range_ahead_of_no_such_stop(self):
        for row in ([4, 4], [9, 0, 0], [0, 1, 2, 3, 4, 5, 6], [9] * 10):
            for call in self.asked(row):
                check_refused(self, FOUR, call, -22)

    def test_no_such_stop_ahead_of_the_frost(self):
        for call in (quick(601, [4]), most(601, [4]), drops(601, [4]), load(601, [4])):
            check_refused(self, FOUR, call, -2)


if __name__ == "__main__":
    unittest.main()
