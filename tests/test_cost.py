import unittest

from helper import BEST, ask, begin, cost, last, meeting, rooms


class CostAnswers(unittest.TestCase):
    def test_what_it_cost_before(self):
        told = ask(begin(2, 2), cost(1, 0, 7), cost(1, 0, 100), cost(1, 0, 0), cost(1, 0, 99), cost(1, 0, 1))
        self.assertEqual(told[1:], [[0], [7], [100], [0], [99]])

    def test_each_person_and_hour_has_a_cost_of_its_own(self):
        places = [(person, hour) for person in range(3) for hour in range(5)]
        first = [cost(person, hour, 10 * person + hour) for person, hour in places]
        again = [cost(person, hour, 50) for person, hour in places]
        told = ask(begin(3, 5), *first, *again)
        self.assertEqual(told[16:], [[10 * person + hour] for person, hour in places])

    def test_the_hour_costs_that_in_a_plan(self):
        for price in [0, 1, 98, 99]:
            self.assertEqual(last(cost(0, 0, price), meeting(0), BEST), [price, 0])

    def test_at_100_they_cannot(self):
        self.assertEqual(last(cost(0, 0, 100), meeting(0), BEST), [-6])

    def test_they_can_again(self):
        self.assertEqual(last(cost(0, 0, 100), meeting(0), cost(0, 0, 99), BEST), [99, 0])

    def test_a_meeting_that_is_there_already_costs_that_too(self):
        told = ask(begin(1, 2), meeting(0), BEST, cost(0, 0, 4), BEST, cost(0, 1, 6), BEST)
        self.assertEqual(told[2::2], [[0, 0], [0, 1], [4, 0]])


class CostRefuses(unittest.TestCase):
    def test_above_100(self):
        self.assertEqual(ask(cost(0, 0, 101), cost(0, 0, 200), cost(0, 0, 100)), [[-1], [-1], [0]])

    def test_no_such_person(self):
        for person in [2, 3, 6, 200]:
            self.assertEqual(last(begin(2, 3), cost(person, 0, 1)), [-1])

    def test_no_such_hour(self):
        for hour in [3, 4, 5, 200]:
            self.assertEqual(last(begin(4, 3), cost(0, hour, 1)), [-1])

    def test_a_refusal_changes_nothing(self):
        told = ask(begin(2, 2), cost(0, 0, 1), cost(0, 1, 2), cost(1, 0, 3), cost(1, 1, 4),
                   cost(1, 1, 101), cost(2, 1, 9), cost(1, 2, 9), cost(200, 200, 200),
                   cost(0, 0, 1), cost(0, 1, 2), cost(1, 0, 3), cost(1, 1, 4), rooms(0, 1), rooms(1, 1))
        self.assertEqual(told[5:], [[-1]] * 4 + [[1], [2], [3], [4], [1], [1]])


if __name__ == "__main__":
    unittest.main()
