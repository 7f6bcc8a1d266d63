"""The one list of calls, the one list of answers, and what is handed in."""

import unittest

from colddrops.lorry import answers
from tests.helper import LATER_CALLS, ask, back, begin, drive, last, load, mild, most, need, quick, stop, wait, way

LINE = [begin(2, 3, 1000), stop(5, 50, 100), stop(6, 60, 200), way(0, 1, 9), load(300, [1, 0]), drive(0), drive(0),
        wait(3), drive(1), back(), need([0, 1]), mild([1, 0]), quick(200, [0, 1]), most(90, [1, 0]), begin(0, 0, 0)]


def flat(calls):
    return [number for call in calls for number in call]


class OneList(unittest.TestCase):
    def test_each_answer_has_its_length_before_it(self):
        calls = [0, 1, 2, 500, 1, 5, 50, 100, 1, 6, 60, 200, 2, 0, 1, 9, 2, 0, 0, 9, 3, 300, 2, 1, 0, 4, 0, 6, 3,
                 5, 4, 1, 5, 7, 2, 0, 1, 8, 0, 9, 600, 1, 1, 9, 0, 1, 1, 10, 600, 2, 1, 0]
        self.assertEqual(answers(calls), [
            1, 0, 1, 0, 1, 1, 1, 30, 1, -22, 1, 300, 3, 291, 9, 0, 2, 17, 278,
            1, -16, 3, 248, 47, 0, 1, 83, 2, 109, 80, 2, 0, 0, 3, 66, 90, 1, 1, -33, 4, 2, 80, 0, 1])

    def test_one_call(self):
        self.assertEqual(answers([5]), [1, -11])
        self.assertEqual(answers([0, 1, 1, 1]), [1, 0])
        self.assertEqual(answers([0, 1, 1, 0]), [1, -22])

    def test_rows_of_every_length_are_read_to_their_end(self):
        for count in range(11):
            row = list(range(count))
            for call in (load(700, row), need(row), mild(row), quick(700, row), most(700, row)):
                self.assertEqual(len(ask([begin(), call, wait(4)])), 3)
                self.assertEqual(last([begin(), call, wait(4)]), [4, 0])

    def test_the_shapes_of_the_later_calls_are_read_to_their_end(self):
        for call in LATER_CALLS:
            self.assertEqual(ask([call, begin(), wait(4)]), [[-11], [0], [4, 0]])
        self.assertEqual(ask([[11, 1, 0], [11, 1, 10] + [0] * 10, wait(4)]), [[-11]] * 3)

    def test_whole_numbers_alone_are_answered(self):
        self.assertEqual({kind for kind in map(type, answers(flat(LINE)))}, {int})

    def test_400_calls(self):
        calls = [begin(1, 2)] + [stop(5, 50 + s, 10) for s in range(7)] + [mild([6, 5, 4, 3, 2, 1])] * 392
        told = ask(calls)
        self.assertEqual(len(told), 400)
        self.assertEqual(told[-1], told[8])


class HandedIn(unittest.TestCase):
    def test_it_is_the_same_afterwards(self):
        calls = flat(LINE)
        answers(calls)
        self.assertEqual(calls, flat(LINE))

    def test_it_is_not_changed_for_a_while_either(self):
        class Watched(list):
            def refuse(self, *args, **kwargs):
                raise AssertionError("the list that was handed in was changed")

            __setitem__ = __delitem__ = __iadd__ = __imul__ = refuse
            append = extend = insert = pop = remove = clear = sort = reverse = refuse

        self.assertEqual(answers(Watched(flat(LINE))), answers(flat(LINE)))

    def test_the_same_list_gets_the_same_answer(self):
        calls = flat(LINE)
        first = answers(calls)
        self.assertEqual(answers(calls), first)

    def test_nothing_is_kept(self):
        answers(flat(LINE))
        self.assertEqual(answers(flat([stop(), wait(1), need([0])])), [1, -11, 1, -11, 1, -11])
        self.assertEqual(answers(flat([begin(), stop(), way(0, 1, 3)])), [1, 0, 1, 0, 1, 30])

    def test_the_list_that_is_given_back_is_the_callers_own(self):
        first = answers(flat(LINE))
        kept = list(first)
        first.clear()
        self.assertEqual(answers(flat(LINE)), kept)


if __name__ == "__main__":
    unittest.main()
