import unittest

from helper import KEEP, KEPT, MOVE, SHARE, ask, begin, cost, drop, last, meeting, pin, prices, rooms

# Kept of the two are the hours 1 and 2; person 1 comes to both, person 3 to none.
TWO = [begin(4, 3), *prices(0, 9, 1, 9), *prices(1, 20, 2, 30), *prices(2, 9, 9, 4), *prices(3, 7, 7, 7),
       meeting(0, 1), meeting(2, 1), pin(1, 2), KEEP]


class Share(unittest.TestCase):
    def test_at_first(self):
        self.assertEqual(ask(SHARE), [[1, 0]])

    def test_no_meetings(self):
        for people in range(1, 7):
            self.assertEqual(last(begin(people, 2), cost(0, 0, 9), KEEP, SHARE), [people] + [0] * people)

    def test_nothing_kept(self):
        self.assertEqual(last(begin(2, 1), cost(0, 0, 9), meeting(0), SHARE), [2, 0, 0])
        self.assertEqual(last(begin(2, 1), cost(0, 0, 100), meeting(0), SHARE), [2, 0, 0])
        self.assertEqual(last(begin(1, 2), *prices(0, 3, 9), meeting(0), pin(0, 1), SHARE), [1, 0])

    def test_of_each_what_the_kept_hours_of_their_own_meetings_cost(self):
        self.assertEqual(ask(*TWO, KEPT, SHARE)[-2:], [[2, 1, 2], [4, 1, 32, 4, 0]])

    def test_it_adds_up_to_what_the_plan_costs(self):
        told = ask(*TWO, SHARE)
        self.assertEqual(told[-2], [sum(told[-1][1:])])

    def test_it_costs_what_the_hours_cost_now(self):
        self.assertEqual(last(*TWO, cost(1, 1, 50), cost(2, 2, 0), SHARE), [4, 1, 80, 0, 0])

    def test_other_hours_and_other_people_count_nothing(self):
        self.assertEqual(last(*TWO, cost(0, 0, 100), cost(0, 2, 100), cost(3, 1, 100), SHARE), [4, 1, 32, 4, 0])

    def test_100_of_each_at_which_they_cannot(self):
        self.assertEqual(last(*TWO, cost(1, 1, 100), SHARE), [4, 1, 130, 4, 0])
        self.assertEqual(last(*TWO, cost(1, 1, 100), cost(1, 2, 100), SHARE), [4, 1, 200, 4, 0])

    def test_the_kept_hours_count_even_if_they_cannot_be(self):
        self.assertEqual(last(*TWO, rooms(1, 0), pin(0, 0), SHARE), [4, 1, 32, 4, 0])

    def test_the_greatest(self):
        calls = [begin(1, 5), *[meeting(0)] * 5, KEEP, *prices(0, 100, 100, 100, 100, 100)]
        self.assertEqual(last(*calls, SHARE), [1, 500])

    def test_a_new_meeting_counts_nothing_until_it_is_kept(self):
        told = ask(*TWO, meeting(1), SHARE, MOVE, SHARE)
        self.assertEqual(told[-3:], [[4, 1, 32, 4, 0], [0, 57], [4, 1, 52, 4, 0]])

    def test_behind_a_move(self):
        told = ask(*TWO, rooms(1, 0), MOVE, SHARE)
        self.assertEqual(told[-2:], [[1, 63], [4, 9, 50, 4, 0]])

    def test_a_dropped_one_is_gone_with_what_is_kept_of_it(self):
        self.assertEqual(last(*TWO, drop(0), SHARE), [4, 0, 30, 4, 0])
        self.assertEqual(last(*TWO, drop(1), SHARE), [4, 1, 2, 0, 0])
        self.assertEqual(last(*TWO, drop(1), meeting(2, 1), SHARE), [4, 1, 2, 0, 0])

    def test_behind_a_begin(self):
        self.assertEqual(last(*TWO, begin(2, 3), SHARE), [2, 0, 0])
        self.assertEqual(last(*TWO, begin(2, 3), cost(0, 1, 5), meeting(0, 1), SHARE), [2, 0, 0])

    def test_it_changes_nothing(self):
        self.assertEqual(ask(*TWO, SHARE, SHARE, KEPT)[-3:], [[4, 1, 32, 4, 0], [4, 1, 32, 4, 0], [2, 1, 2]])


if __name__ == "__main__":
    unittest.main()
