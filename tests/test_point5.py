"""Point 5: done, warm, sums, state."""

import unittest

from tests.helper import ask, back, begin, done, drive, last, load, most, need, state, stop, sums, wait, warm, way

FOUR = [begin(2, 3, 1000), stop(5, 50, 100), stop(6, 60, 200), stop(7, 70, 300), stop(8, 80, 400)]
# Stop 2 has 120 in minute 20; stop 0 has 120 - 21 - 80 = 19 in minute 67, and wants 50.
LOADED = FOUR + [way(0, 3, 20), way(3, 1, 40), load(160, [2, 0])]
DRIVEN = LOADED + [drive(2), drive(0)]
# Back in minute 102; stop 1 has 100 - 60 = 40 in minute 132, and wants 60; stop 0 has 0 in minute 168.
TWICE = DRIVEN + [back(), load(100, [0, 1]), drive(1), drive(0)]
# Back in minute 203; stop 3 has 540 in minute 233.
THRICE = TWICE + [back(), load(600, [3]), drive(3)]

# Each is refused, wherever the lorry is.
REFUSED = [begin(0), stop(0), way(0, 0, 1), way(0, 9, 1), load(300, []), load(300, [0, 0]), load(300, [9]),
           load(601, [0]), drive(9), wait(0), wait(601), need([9]), most(601, [])]


class Done(unittest.TestCase):
    def test_before_the_first_drop(self):
        for line in ([begin()], FOUR, LOADED, LOADED + [wait(5)]):
            self.assertEqual(last(line + [done()]), [0])

    def test_stop_minute_frost_and_tenths(self):
        self.assertEqual(last(LOADED + [drive(2), done()]), [1, 2, 20, 120, 0])
        self.assertEqual(last(DRIVEN + [done()]), [2, 2, 20, 120, 0, 0, 67, 19, 31])

    def test_in_the_order_they_were_driven(self):
        self.assertEqual(last(LOADED + [drive(0), drive(2), done()]), [2, 0, 30, 100, 0, 2, 65, 25, 45])

    def test_over_several_loads(self):
        self.assertEqual(last(TWICE + [done()]), [4, 2, 20, 120, 0, 0, 67, 19, 31, 1, 132, 40, 20, 0, 168, 0, 50])
        self.assertEqual(last(THRICE + [done()]),
                         [5, 2, 20, 120, 0, 0, 67, 19, 31, 1, 132, 40, 20, 0, 168, 0, 50, 3, 233, 540, 0])

    def test_as_drive_told_it(self):
        told = ask(THRICE + [done()])
        drives = [(call[1], answer) for call, answer in zip(THRICE, told) if call[0] == 4]
        entries = [(s, minute, frost, tenths) for s, (frost, minute, tenths) in drives]
        self.assertEqual(told[-1], [5] + [n for entry in entries for n in entry])

    def test_the_minute_is_the_beginning_and_not_the_end(self):
        line = [begin(1, 100), stop(120, 1, 1), load(31, [0]), drive(0), done()]
        self.assertEqual(last(line), [1, 0, 30, 1, 0])

    def test_way_back_and_wait_are_no_drops(self):
        self.assertEqual(last(DRIVEN + [wait(9), back(), wait(9), done()]), [2, 2, 20, 120, 0, 0, 67, 19, 31])

    def test_a_way_that_is_told_later_is_no_matter(self):
        self.assertEqual(last(DRIVEN + [way(0, 3, 1), stop(), done()]), [2, 2, 20, 120, 0, 0, 67, 19, 31])

    def test_a_refused_drive_is_no_drop(self):
        self.assertEqual(last(LOADED + [drive(1), drive(2), drive(2), drive(9), done()]), [1, 2, 20, 120, 0])

    def test_many(self):
        line = [begin(1, 1), stop(1, 1, 1), way(0, 1, 1), way(1, 0, 1)] + [load(9, [0]), drive(0), back()] * 130
        told = last(line + [done()])
        self.assertEqual(told, [130] + [n for trip in range(130) for n in (0, 3 * trip + 1, 8, 0)])


class Warm(unittest.TestCase):
    def test_before_the_first_drop(self):
        for line in ([begin()], FOUR, LOADED, LOADED + [wait(600)]):
            self.assertEqual(last(line + [warm()]), [0, 0, 0])

    def test_none(self):
        self.assertEqual(last(LOADED + [drive(2), warm()]), [0, 0, 0])
        self.assertEqual(last(FOUR + [load(110, [0]), drive(0), warm()]), [0, 0, 0])

    def test_by_a_tenth(self):
        self.assertEqual(last(FOUR + [load(109, [0]), drive(0), warm()]), [1, 1, 1])

    def test_one_of_several(self):
        self.assertEqual(last(DRIVEN + [warm()]), [1, 31, 31])

    def test_several(self):
        self.assertEqual(last(TWICE + [warm()]), [3, 101, 50])
        self.assertEqual(last(THRICE + [warm()]), [3, 101, 50])

    def test_the_most_may_be_the_first_one_in_the_midst_or_the_last(self):
        line = [begin(1, 1), stop(1, 100, 1), stop(1, 300, 1), stop(1, 200, 1), load(0, [0, 1, 2])]
        for row in ([0, 1, 2], [0, 2, 1], [1, 0, 2]):
            self.assertEqual(last(line + [drive(s) for s in row] + [warm()]), [3, 600, 300])

    def test_a_load_that_is_warm_at_once(self):
        self.assertEqual(last([begin(1, 1), stop(1, 1, 1), way(0, 1, 0), load(0, [0]), drive(0), warm()]), [1, 1, 1])


class Sums(unittest.TestCase):
    def test_before_the_first_load(self):
        self.assertEqual(last([begin(), sums()]), [0, 0, 0, 0, 0])
        self.assertEqual(last(FOUR + [wait(7), sums()]), [0, 0, 0, 0, 7])

    def test_before_the_first_drop(self):
        self.assertEqual(last(LOADED + [sums()]), [0, 1, 0, 0, 0])
        self.assertEqual(last(LOADED + [wait(5), sums()]), [0, 1, 0, 0, 5])

    def test_litres_of_the_drops(self):
        self.assertEqual(last(LOADED + [drive(2), sums()]), [0, 1, 1, 300, 27])
        self.assertEqual(last(LOADED + [drive(0), sums()]), [0, 1, 1, 100, 35])
        self.assertEqual(last(DRIVEN + [sums()]), [0, 1, 2, 400, 72])

    def test_over_several_loads(self):
        self.assertEqual(last(DRIVEN + [back(), sums()]), [0, 1, 2, 400, 102])
        self.assertEqual(last(DRIVEN + [back(), load(600, [3]), sums()]), [0, 2, 2, 400, 102])
        self.assertEqual(last(TWICE + [sums()]), [0, 2, 4, 700, 173])
        self.assertEqual(last(THRICE + [sums()]), [0, 3, 5, 1100, 241])

    def test_a_refused_load_is_none(self):
        self.assertEqual(last(LOADED + [load(300, [1]), sums()]), [0, 1, 0, 0, 0])
        line = FOUR + [stop(1, 1, 1), load(300, [0, 1, 2, 3, 4]), load(601, [0]), load(300, []), load(300, [9])]
        self.assertEqual(last(line + [sums()]), [0, 0, 0, 0, 0])
        self.assertEqual(last(DRIVEN + [load(300, [1]), sums()]), [0, 1, 2, 400, 72])

    def test_litres_above_the_room_over_several_loads(self):
        line = [begin(1, 1, 10000), stop(1, 1, 10000)] + [load(600, [0]), drive(0), back()] * 12
        self.assertEqual(last(line + [sums()]), [0, 12, 12, 120000, 12 * 61])


class State(unittest.TestCase):
    def test_at_first(self):
        self.assertEqual(last([begin(), state()]), [0, 0, 0, 0, 0])

    def test_stops(self):
        self.assertEqual(ask([begin()] + [stop(), state()] * 7)[2::2], [[0, count, 0, 0, 0] for count in range(1, 8)])
        self.assertEqual(last([begin()] + [stop()] * 9 + [state()]), [0, 7, 0, 0, 0])

    def test_loaded(self):
        self.assertEqual(last(LOADED + [state()]), [0, 4, 0, 2, 160])
        self.assertEqual(last(LOADED + [wait(5), state()]), [5, 4, 0, 2, 150])

    def test_behind_a_drop(self):
        self.assertEqual(last(LOADED + [drive(2), state()]), [27, 4, 3, 1, 99])
        self.assertEqual(last(LOADED + [drive(2), wait(10), state()]), [37, 4, 3, 1, 79])
        self.assertEqual(last(DRIVEN + [state()]), [72, 4, 1, 0, 4])

    def test_back(self):
        self.assertEqual(last(DRIVEN + [back(), state()]), [102, 4, 0, 0, 0])
        self.assertEqual(last(FOUR + [load(600, [1]), drive(1), back(), state()]), [66, 4, 0, 0, 600 - 60 - 18 - 60])

    def test_over_several_loads(self):
        self.assertEqual(last(DRIVEN + [back(), load(600, [3, 1]), state()]), [102, 4, 0, 2, 600])
        self.assertEqual(last(TWICE + [state()]), [173, 4, 1, 0, 0])
        self.assertEqual(last(THRICE + [state()]), [241, 4, 4, 0, 516])

    def test_frost_never_less_than_none(self):
        line = [begin(3, 3), stop(1, 1, 1), load(10, [0])]
        self.assertEqual(ask(line + [wait(3), state(), wait(1), state(), wait(600), state()])[-6:],
                         [[3, 1], [3, 1, 0, 1, 1], [4, 0], [4, 1, 0, 1, 0], [604, 0], [604, 1, 0, 1, 0]])

    def test_as_wait_told_it(self):
        for line in (FOUR, LOADED, DRIVEN, TWICE, THRICE):
            told = ask(line + [wait(3), state()])
            self.assertEqual([told[-1][0], told[-1][4]], told[-2])


class Refused(unittest.TestCase):
    def test_what_is_refused_is_not_told_of(self):
        questions = [done(), warm(), sums(), state()]
        for line in (FOUR, LOADED, DRIVEN, TWICE, THRICE):
            told = ask(line + questions + REFUSED + questions)[len(line):]
            self.assertEqual([len(answer) for answer in told[4:-4]], [1] * len(REFUSED))
            self.assertLess(max(answer[0] for answer in told[4:-4]), 0)
            self.assertEqual(told[-4:], told[:4])


class Begun(unittest.TestCase):
    def test_again_all_is_new(self):
        line = THRICE + [begin(1, 1, 50)]
        self.assertEqual(ask(line + [done(), warm(), sums(), state()])[-4:],
                         [[0], [0, 0, 0], [0, 0, 0, 0, 0], [0, 0, 0, 0, 0]])
        after = [stop(1, 40, 7), load(60, [0]), drive(0), done(), warm(), sums(), state()]
        self.assertEqual(ask(line + after)[-4:], [[1, 0, 30, 30, 10], [1, 10, 10], [0, 1, 1, 7, 31], [31, 1, 1, 0, 29]])

    def test_refused_nothing_is(self):
        questions = [done(), warm(), sums(), state()]
        for call in (begin(0), begin(21, 21), begin(5, 4), begin(1, 101), begin(1, 1, 0), begin(1, 1, 100001)):
            told = ask(THRICE + questions + [call] + questions)[len(THRICE):]
            self.assertEqual(told[4], [-22])
            self.assertEqual(told[5:], told[:4])


if __name__ == "__main__":
    unittest.main()
