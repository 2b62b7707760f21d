import unittest

from helper import BEST, KEEP, KEPT, MOVE, NEAREST, ask, begin, cost, drop, last, meeting, pin, prices, rooms

# Kept of the three are the hours 0, 1 and 2; all is free.
THREE = [begin(3, 4), meeting(0), meeting(1), meeting(2), KEEP]


class NearestByHand(unittest.TestCase):
    def test_no_meetings(self):
        self.assertEqual(ask(NEAREST), [[0, 0]])
        self.assertEqual(last(begin(6, 5), *[rooms(hour, 0) for hour in range(5)], NEAREST), [0, 0])

    def test_nothing_kept_is_as_the_best(self):
        world = [begin(2, 3), *prices(0, 5, 1, 9), *prices(1, 8, 0, 3), meeting(0), meeting(1)]
        self.assertEqual(last(*world, BEST), [4, 1, 2])
        self.assertEqual(last(*world, NEAREST), [0, 4, 1, 2])

    def test_all_stay_where_they_can(self):
        self.assertEqual(last(*THREE, NEAREST), [0, 0, 0, 1, 2])

    def test_none_moves_only_because_another_hour_is_cheaper(self):
        told = ask(*THREE, *prices(0, 99, 50, 50, 0), NEAREST, BEST)
        self.assertEqual(told[-2:], [[0, 99, 0, 1, 2], [0, 3, 0, 1]])

    def test_one_who_cannot_any_more_is_moved(self):
        self.assertEqual(last(*THREE, cost(1, 1, 100), NEAREST), [1, 0, 0, 3, 2])

    def test_one_move_that_costs_more_comes_ahead_of_two(self):
        told = ask(*THREE, *prices(0, 100, 0, 0, 60), cost(1, 0, 1), NEAREST, BEST)
        self.assertEqual(told[-2:], [[1, 60, 3, 1, 2], [0, 1, 2, 0]])

    def test_of_those_that_move_as_few_the_cheapest(self):
        self.assertEqual(last(begin(1, 4), meeting(0), KEEP, *prices(0, 100, 7, 3, 5), NEAREST), [1, 3, 2])

    def test_which_one_of_two_moves_goes_by_the_cost(self):
        world = [begin(2, 2), rooms(0, 2), meeting(0), meeting(1), KEEP, rooms(0, 1)]
        self.assertEqual(last(*world, cost(0, 1, 4), cost(1, 1, 3), NEAREST), [1, 3, 0, 1])
        self.assertEqual(last(*world, cost(0, 1, 3), cost(1, 1, 4), NEAREST), [1, 3, 1, 0])

    def test_of_as_few_and_as_cheap_the_first(self):
        world = [begin(2, 3), rooms(0, 2), meeting(0), meeting(1), KEEP, rooms(0, 1)]
        self.assertEqual(last(*world, NEAREST), [1, 0, 0, 1])
        self.assertEqual(last(*world, *prices(0, 0, 5, 5), *prices(1, 0, 5, 5), NEAREST), [1, 5, 0, 1])
        self.assertEqual(last(begin(1, 4), meeting(0), KEEP, *prices(0, 100, 7, 3, 3), NEAREST), [1, 3, 2])

    def test_one_of_which_nothing_is_kept_never_counts_as_moved(self):
        self.assertEqual(last(*THREE, meeting(0), NEAREST), [0, 0, 0, 1, 2, 3])
        self.assertEqual(last(*THREE, meeting(0), pin(3, 1), NEAREST), [1, 0, 0, 3, 2, 1])
        self.assertEqual(last(*THREE, meeting(0), cost(0, 3, 9), NEAREST), [0, 9, 0, 1, 2, 3])

    def test_a_new_one_gives_way_to_those_that_are_kept(self):
        world = [begin(2, 2), *prices(1, 0, 80), meeting(0), KEEP, meeting(1)]
        self.assertEqual(ask(*world, NEAREST, BEST)[-2:], [[0, 80, 0, 1], [0, 1, 0]])

    def test_a_pin_moves(self):
        self.assertEqual(last(*THREE, pin(0, 3), NEAREST), [1, 0, 3, 1, 2])
        self.assertEqual(last(*THREE, pin(0, 1), NEAREST), [2, 0, 1, 0, 2])
        self.assertEqual(last(*THREE, pin(0, 0), NEAREST), [0, 0, 0, 1, 2])

    def test_all_are_moved(self):
        self.assertEqual(last(*THREE, pin(0, 1), pin(1, 2), pin(2, 0), NEAREST), [3, 0, 1, 2, 0])
        five = [begin(1, 5), *[meeting(0)] * 5, KEEP, *[pin(number, 4 - number) for number in range(5)], pin(2, 5)]
        self.assertEqual(last(*five, NEAREST), [4, 0, 4, 3, 2, 1, 0])
        cycle = [begin(1, 5), *[meeting(0)] * 5, KEEP, *[pin(number, (number + 1) % 5) for number in range(5)]]
        self.assertEqual(last(*cycle, NEAREST), [5, 0, 1, 2, 3, 4, 0])

    def test_hour_0_counts_as_kept(self):
        self.assertEqual(last(begin(1, 2), meeting(0), KEEP, cost(0, 0, 5), NEAREST), [0, 5, 0])
        self.assertEqual(last(begin(1, 2), meeting(0), KEEP, pin(0, 1), NEAREST), [1, 0, 1])

    def test_behind_a_drop_each_has_its_own_kept_hour(self):
        self.assertEqual(last(*THREE, drop(0), NEAREST), [0, 0, 1, 2])
        self.assertEqual(last(*THREE, drop(1), pin(1, 1), NEAREST), [1, 0, 0, 1])

    def test_behind_a_begin_nothing_moves(self):
        self.assertEqual(last(*THREE, begin(3, 4), meeting(0), pin(0, 3), NEAREST), [0, 0, 3])

    def test_it_costs_what_the_hours_cost_now(self):
        self.assertEqual(last(*THREE, cost(0, 0, 7), cost(1, 1, 20), cost(2, 2, 99), cost(0, 1, 55), NEAREST),
                         [0, 126, 0, 1, 2])


class NearestChangesNothing(unittest.TestCase):
    def test_nothing_is_kept_by_it(self):
        self.assertEqual(ask(*THREE, pin(0, 3), NEAREST, KEPT, NEAREST)[-2:], [[3, 0, 1, 2], [1, 0, 3, 1, 2]])
        self.assertEqual(last(begin(1, 1), meeting(0), NEAREST, KEPT), [1, -1])


class NearestRefuses(unittest.TestCase):
    def test_no_plan_can_be(self):
        self.assertEqual(last(begin(1, 1), meeting(0), meeting(0), NEAREST), [-6])
        self.assertEqual(last(*THREE, *prices(1, 100, 100, 100, 100), NEAREST), [-6])
        self.assertEqual(last(*THREE, rooms(0, 0), rooms(1, 0), NEAREST), [-6])
        self.assertEqual(last(*THREE, pin(0, 2), pin(1, 2), NEAREST), [-6])

    def test_a_refusal_changes_nothing(self):
        told = ask(*THREE, pin(0, 2), pin(1, 2), NEAREST, KEPT, pin(0, 4), pin(1, 4), NEAREST, MOVE)
        self.assertEqual(told[-6:], [[-6], [3, 0, 1, 2], [2], [2], [0, 0, 0, 1, 2], [0, 0]])


if __name__ == "__main__":
    unittest.main()
