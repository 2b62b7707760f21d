import unittest

from helper import BEST, ask, begin, cost, drop, last, meeting, pin

# Each person's price tells from the cost of a plan which meetings are left.
THREE = [begin(3, 3), cost(0, 0, 1), cost(0, 1, 1), cost(0, 2, 1), cost(1, 0, 10), cost(1, 1, 10), cost(1, 2, 10),
         cost(2, 0, 30), cost(2, 1, 30), cost(2, 2, 30), meeting(0), meeting(1), meeting(2),
         pin(0, 2), pin(1, 0), pin(2, 1)]


class DropAnswers(unittest.TestCase):
    def test_how_many_are_left(self):
        told = ask(begin(1, 5), *[meeting(0)] * 5, drop(4), drop(0), drop(1), drop(0), drop(0), drop(0))
        self.assertEqual(told[6:], [[4], [3], [2], [1], [0], [-3]])

    def test_those_behind_it_are_one_lower_with_their_pins(self):
        for number, left in [(0, [0, 1]), (1, [2, 1]), (2, [2, 0])]:
            told = ask(*THREE, drop(number), pin(0, 3), pin(1, 3), pin(2, 3))
            self.assertEqual(told[-4:], [[2], [left[0]], [left[1]], [-3]])

    def test_those_behind_it_keep_their_people(self):
        for number, wanted in [(0, [40, 0, 1]), (1, [31, 2, 1]), (2, [11, 2, 0])]:
            self.assertEqual(last(*THREE, drop(number), BEST), wanted)

    def test_people_by_number_behind_a_drop(self):
        told = ask(*THREE, drop(0), drop(0), BEST, drop(0), BEST)
        self.assertEqual(told[-5:], [[2], [1], [30, 1], [0], [0]])

    def test_a_new_meeting_behind_a_drop_is_not_pinned(self):
        self.assertEqual(ask(*THREE, drop(2), meeting(0), pin(2, 0))[-3:], [[2], [2], [3]])


class DropRefuses(unittest.TestCase):
    def test_no_such_meeting(self):
        for number in [3, 4, 5, 200]:
            self.assertEqual(last(*THREE, drop(number)), [-3])
        self.assertEqual(ask(drop(0)), [[-3]])

    def test_a_refusal_changes_nothing(self):
        for number in [3, 5, 200]:
            told = ask(*THREE, drop(number), BEST, drop(2))
            self.assertEqual(told[-3:], [[-3], [41, 2, 0, 1], [2]])


if __name__ == "__main__":
    unittest.main()
