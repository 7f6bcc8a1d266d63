"""The one list of calls, the one list of answers, and what is handed in."""

import time
import unittest

from colddrops.lorry import answers
from tests.helper import (
    ask, back, begin, done, drive, drops, last, left, load, look, mild, mins, most, need, now, quick, slack, state,
    stop, sums, wait, warm, way)

# Each call at least once.
LINE = [begin(2, 3, 1000), stop(5, 50, 100), stop(6, 60, 200), way(0, 1, 9), load(300, [1, 0]), now(), left(), drive(0),
        drive(0), wait(3), now(), left(), slack(), drive(1), back(), need([0, 1]), mild([1, 0]), quick(200, [0, 1]),
        most(90, [1, 0]), drops(90, [1, 0]), mins(0, 1), look(1), done(), warm(), sums(), state(), now(), slack(),
        begin(0, 0, 0), load(400, [1, 0]), left()]
SEVEN = [begin(1, 2)] + [stop(5, 50 + s, 10) for s in range(7)]


def flat(calls):
    return [number for call in calls for number in call]


class OneList(unittest.TestCase):
    def test_each_answer_has_its_length_before_it(self):
        calls = [0, 1, 2, 500, 1, 5, 50, 100, 1, 6, 60, 200, 2, 0, 1, 9, 2, 0, 0, 9, 3, 300, 2, 1, 0, 4, 0, 6, 3,
                 5, 4, 1, 5, 7, 2, 0, 1, 8, 0, 9, 600, 1, 1, 9, 0, 1, 1, 10, 600, 2, 1, 0]
        self.assertEqual(answers(calls), [
            1, 0, 1, 0, 1, 1, 1, 30, 1, -22, 1, 300, 3, 291, 9, 0, 2, 17, 278,
            1, -16, 3, 248, 47, 0, 1, 83, 2, 109, 80, 2, 0, 0, 3, 66, 90, 1, 1, -33, 4, 2, 80, 0, 1])

    def test_the_later_calls_in_the_list(self):
        calls = [0, 1, 2, 500, 1, 5, 50, 100, 1, 6, 60, 200, 11, 120, 2, 1, 0, 11, 120, 0, 3, 200, 2, 1, 0, 12, 13, 14,
                 4, 1, 12, 13, 14, 15, 0, 2, 15, 2, 2, 16, 1, 16, 2, 17, 18, 19, 20, 4, 0, 12, 13, 14, 17, 18, 19, 20]
        self.assertEqual(answers(calls), [
            1, 0, 1, 0, 1, 1, 5, 1, 30, 90, 66, 48, 1, 0, 1, 300, 3, 101, 1, 0, 3, 2, 1, 0, 1, 78,
            3, 170, 30, 0, 2, 65, 0, 2, 1, 0, 1, 78, 1, 30, 1, 0, 3, 6, 60, 200, 1, -2, 5, 1, 1, 30, 170, 0, 3, 0, 0, 0,
            5, 0, 1, 1, 200, 36, 5, 36, 2, 2, 1, 158, 3, 128, 66, 0, 1, -6, 1, 0, 1, -6,
            9, 2, 1, 30, 170, 0, 0, 66, 128, 0, 3, 0, 0, 0, 5, 0, 1, 2, 300, 71, 5, 71, 2, 1, 0, 118])

    def test_one_call(self):
        self.assertEqual(answers([5]), [1, -11])
        self.assertEqual(answers([0, 1, 1, 1]), [1, 0])
        self.assertEqual(answers([0, 1, 1, 0]), [1, -22])

    def test_rows_of_every_length_are_read_to_their_end(self):
        for count in range(11):
            row = list(range(count))
            for call in (load(700, row), need(row), mild(row), quick(700, row), most(700, row), drops(700, row)):
                self.assertEqual(len(ask([begin(), call, wait(4)])), 3)
                self.assertEqual(last([begin(), call, wait(4)]), [4, 0])

    def test_each_shape_is_read_to_its_end(self):
        for call in LINE:
            told = ask([call, begin(), wait(4)])
            self.assertEqual(told[1:], [[0], [4, 0]])

    def test_no_call_raises_an_error_where_there_is_nothing(self):
        for call in LINE:
            for before in ([], [begin()], [begin(), stop()], SEVEN):
                self.assertEqual(len(ask(before + [call, state()])), len(before) + 2)

    def test_no_answer_below_0_has_more_behind_it(self):
        for answer in ask(LINE * 3):
            self.assertTrue(answer[0] >= 0 or len(answer) == 1)
            self.assertGreaterEqual(min(answer[1:], default=0), 0)

    def test_whole_numbers_alone_are_answered(self):
        self.assertEqual({kind for kind in map(type, answers(flat(LINE)))}, {int})


class GoodTime(unittest.TestCase):
    ROW = [6, 5, 4, 3, 2, 1]
    # Some ten times what it takes, so that a slow machine is no fault.
    SECONDS = 30

    def check_400(self, before, call):
        calls = before + [call] * (400 - len(before))
        started = time.process_time()
        told = ask(calls)
        self.assertLess(time.process_time() - started, self.SECONDS)
        self.assertEqual(len(told), 400)
        self.assertEqual(told[-1], told[len(before)])
        self.assertGreaterEqual(told[-1][0], 0)

    def test_long_rows(self):
        row = self.ROW
        for call in (need(row), mild(row), quick(600, row), most(300, row), drops(300, row)):
            self.check_400(SEVEN, call)

    def test_long_rows_that_are_loaded(self):
        for call in (now(), slack(), left(), state()):
            self.check_400(SEVEN + [load(600, self.ROW)], call)

    def test_many_drops(self):
        trips = [load(600, [0]), drive(0), back()] * 65
        for call in (done(), warm(), sums()):
            self.check_400(SEVEN + trips, call)

    def test_the_longest_list(self):
        calls = [begin()] + [drops(600, [9] * 10)] * 399
        self.assertEqual(ask(calls), [[0]] + [[-22]] * 399)


class HandedIn(unittest.TestCase):
    def test_it_is_the_same_afterwards(self):
        calls = flat(LINE)
        answers(calls)
        self.assertEqual(calls, flat(LINE))

    def test_it_is_not_changed_for_a_while_either(self):
        class Watched(list):
            def refuse(self, *args, **kwargs):
                raise AssertionError("the list that was handed in was changed")

            __setitem__ = __delitem__ = __iadd__ = __imul__ = refuse
            append = extend = insert = pop = remove = clear = sort = reverse = refuse

        self.assertEqual(answers(Watched(flat(LINE))), answers(flat(LINE)))

    def test_the_same_list_gets_the_same_answer(self):
        calls = flat(LINE)
        first = answers(calls)
        self.assertEqual(answers(calls), first)

    def test_nothing_is_kept(self):
        answers(flat(LINE))
        self.assertEqual(answers(flat([stop(), wait(1), need([0])])), [1, -11, 1, -11, 1, -11])
        self.assertEqual(answers(flat([begin(), stop(), way(0, 1, 3)])), [1, 0, 1, 0, 1, 30])
        self.assertEqual(ask([begin(), done(), warm(), sums(), state(), left()]),
                         [[0], [0], [0, 0, 0], [0, 0, 0, 0, 0], [0, 0, 0, 0, 0], [0]])

    def test_the_list_that_is_given_back_is_the_callers_own(self):
        first = answers(flat(LINE))
        kept = list(first)
        first.clear()
        self.assertEqual(answers(flat(LINE)), kept)


if __name__ == "__main__":
    unittest.main()
