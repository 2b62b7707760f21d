import unittest

from helper import BEST, KEEP, KEPT, SHARE, ask, begin, cost, drop, last, meeting, pin, prices, rooms

# The best plan of the two costs 4: hours 1 and 2.
TWO = [begin(2, 3), *prices(0, 5, 1, 9), *prices(1, 8, 0, 3), meeting(0), meeting(1)]


class KeepAnswers(unittest.TestCase):
    def test_what_the_best_plan_costs_alone(self):
        self.assertEqual(last(*TWO, BEST), [4, 1, 2])
        self.assertEqual(last(*TWO, KEEP), [4])

    def test_no_meetings(self):
        self.assertEqual(ask(KEEP, KEPT), [[0], [0]])
        self.assertEqual(ask(begin(6, 5), rooms(0, 0), *prices(0, 100, 100, 100, 100, 100), KEEP)[-1], [0])

    def test_it_answers_the_cost_of_now_when_called_again(self):
        told = ask(*TWO, KEEP, cost(0, 1, 2), KEEP, drop(0), KEEP)
        self.assertEqual(told[-5:], [[4], [1], [5], [1], [0]])

    def test_the_greatest_cost(self):
        dear = [call for person in range(6) for call in prices(person, 99, 99, 99, 99, 99)]
        self.assertEqual(last(begin(6, 5), *dear, *[meeting(0, 1, 2, 3, 4, 5)] * 5, KEEP), [2970])


class KeepKeeps(unittest.TestCase):
    def test_the_best_plans_hours(self):
        self.assertEqual(last(*TWO, KEEP, KEPT), [2, 1, 2])

    def test_of_the_cheapest_plans_the_first(self):
        self.assertEqual(last(begin(1, 3), *prices(0, 5, 2, 2), meeting(0), meeting(0), KEEP, KEPT), [2, 1, 2])

    def test_the_best_plan_even_if_it_moves_what_is_kept(self):
        told = ask(*TWO, KEEP, cost(0, 0, 0), cost(1, 1, 0), KEEP, KEPT)
        self.assertEqual(told[-2:], [[0], [2, 0, 1]])

    def test_of_new_meetings_too(self):
        told = ask(begin(1, 3), meeting(0), KEEP, meeting(0), KEPT, KEEP, KEPT)
        self.assertEqual(told[3:], [[1], [2, 0, -1], [0], [2, 0, 1]])

    def test_where_they_are_pinned(self):
        self.assertEqual(ask(*TWO, pin(0, 2), KEEP, KEPT)[-2:], [[9], [2, 2, 1]])

    def test_it_stays_kept_whatever_changes(self):
        for change in [cost(0, 1, 100), rooms(1, 0), pin(0, 0), cost(0, 0, 0), meeting(9), begin(0, 0), drop(2)]:
            self.assertEqual(last(*TWO, KEEP, change, KEPT), [2, 1, 2], change)

    def test_best_keeps_nothing(self):
        self.assertEqual(last(*TWO, BEST, KEPT), [2, -1, -1])

    def test_it_changes_nothing_else(self):
        told = ask(*TWO, pin(1, 2), KEEP, BEST, pin(0, 3), pin(1, 3), cost(0, 1, 0), cost(1, 2, 0), rooms(1, 1),
                   rooms(2, 1))
        self.assertEqual(told[-7:], [[4, 1, 2], [3], [2], [1], [3], [1], [1]])


class KeepRefuses(unittest.TestCase):
    def test_no_plan_can_be(self):
        self.assertEqual(last(begin(1, 1), meeting(0), meeting(0), KEEP), [-6])
        self.assertEqual(last(begin(2, 1), meeting(0), meeting(1), KEEP), [-6])
        self.assertEqual(last(begin(1, 2), *prices(0, 100, 100), meeting(0), KEEP), [-6])
        self.assertEqual(last(begin(1, 2), cost(0, 1, 100), meeting(0), pin(0, 1), KEEP), [-6])
        self.assertEqual(last(rooms(0, 0), meeting(0), KEEP), [-6])

    def test_a_refusal_keeps_what_was_kept(self):
        told = ask(*TWO, KEEP, SHARE, pin(0, 0), rooms(0, 0), KEEP, KEPT, SHARE, rooms(0, 1), BEST)
        self.assertEqual(told[-8:], [[2, 1, 3], [3], [1], [-6], [2, 1, 2], [2, 1, 3], [0], [5, 0, 1]])

    def test_a_refusal_keeps_nothing_of_new_ones(self):
        told = ask(begin(1, 1), meeting(0), meeting(0), KEEP, KEPT, drop(0), KEEP, KEPT)
        self.assertEqual(told[3:], [[-6], [2, -1, -1], [1], [0], [1, 0]])


if __name__ == "__main__":
    unittest.main()
