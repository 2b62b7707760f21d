import unittest

from helper import BEST, ask, begin, cost, drop, last, meeting, pin, rooms

FIVE = [begin(6, 5)] + [meeting(0)] * 5


class MeetingAnswers(unittest.TestCase):
    def test_its_number(self):
        self.assertEqual(ask(*FIVE)[1:], [[0], [1], [2], [3], [4]])

    def test_all_people_in_any_order(self):
        self.assertEqual(last(begin(6, 1), meeting(5, 0, 3, 1, 4, 2)), [0])

    def test_a_number_is_free_again_behind_a_drop(self):
        self.assertEqual(last(*FIVE, drop(1), meeting(2)), [4])

    def test_not_pinned_at_first(self):
        for hours in range(1, 6):
            self.assertEqual(last(begin(1, hours), meeting(0), pin(0, 0)), [hours])

    def test_just_its_people_have_to_come(self):
        prices = [cost(person, 0, 2 ** person) for person in range(6)]
        for people in [(0,), (5,), (1, 4), (4, 1), (0, 2, 5), (0, 1, 2, 3, 4, 5)]:
            wanted = [sum(2 ** person for person in people), 0]
            self.assertEqual(last(begin(6, 1), *prices, meeting(*people), BEST), wanted)


class MeetingRefuses(unittest.TestCase):
    WRONG = [meeting(), meeting(3), meeting(200), meeting(0, 3), meeting(3, 0), meeting(1, 1), meeting(0, 1, 0),
             meeting(2, 1, 0, 2), meeting(*range(10)), meeting(*[0] * 10), meeting(*[200] * 10), meeting(0, 1, 2, 3)]

    def test_none_one_that_is_not_one_twice(self):
        for wrong in self.WRONG:
            self.assertEqual(last(begin(3, 2), wrong), [-1], wrong)

    def test_the_sixth(self):
        self.assertEqual(last(*FIVE, meeting(0)), [-5])
        self.assertEqual(last(*FIVE, meeting(5, 4, 3, 2, 1, 0)), [-5])

    def test_what_is_not_let_comes_ahead_of_too_many(self):
        for wrong in self.WRONG:
            told = ask(begin(3, 5), *[meeting(0)] * 5, wrong)
            self.assertEqual(told[-1], [-1], wrong)

    def test_a_refusal_changes_nothing(self):
        for wrong in self.WRONG:
            told = ask(begin(3, 2), rooms(1, 3), meeting(1), pin(0, 1), wrong, BEST, meeting(2), pin(0, 0), BEST)
            self.assertEqual(told[4:], [[-1], [0, 1], [1], [1], [0, 0, 1]], wrong)

    def test_the_sixth_changes_nothing(self):
        told = ask(*FIVE, BEST, meeting(1), BEST, pin(5, 0), drop(5), drop(4), meeting(1))
        self.assertEqual(told[6:], [[0, 0, 1, 2, 3, 4], [-5], [0, 0, 1, 2, 3, 4], [-3], [-3], [4], [4]])


if __name__ == "__main__":
    unittest.main()
