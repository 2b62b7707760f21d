import unittest

from helper import BEST, KEEP, KEPT, MOVE, NEAREST, SHARE, ask, begin, cost, drop, last, meeting, pin, prices, rooms

# Kept of the three are the hours 0, 1 and 2; all is free.
THREE = [begin(3, 4), meeting(0), meeting(1), meeting(2), KEEP]


class MoveAnswers(unittest.TestCase):
    def test_no_meetings(self):
        self.assertEqual(ask(MOVE), [[0, 0]])
        self.assertEqual(last(begin(6, 5), rooms(0, 0), MOVE), [0, 0])

    def test_how_many_it_moves_and_what_it_costs_alone(self):
        self.assertEqual(last(*THREE, MOVE), [0, 0])
        self.assertEqual(last(*THREE, *prices(0, 100, 0, 0, 60), cost(1, 0, 1), MOVE), [1, 60])
        self.assertEqual(last(*THREE, pin(0, 1), MOVE), [2, 0])

    def test_nothing_kept_ahead(self):
        told = ask(begin(2, 3), *prices(0, 5, 1, 9), *prices(1, 8, 0, 3), meeting(0), meeting(1), MOVE, KEPT)
        self.assertEqual(told[-2:], [[0, 4], [2, 1, 2]])


class MoveKeeps(unittest.TestCase):
    def test_the_nearest_plans_hours_not_the_best_ones(self):
        told = ask(*THREE, *prices(0, 100, 0, 0, 60), cost(1, 0, 1), BEST, MOVE, KEPT)
        self.assertEqual(told[-3:], [[0, 1, 2, 0], [1, 60], [3, 3, 1, 2]])

    def test_of_as_few_and_as_cheap_the_first(self):
        told = ask(begin(2, 3), rooms(0, 2), meeting(0), meeting(1), KEEP, rooms(0, 1), MOVE, KEPT)
        self.assertEqual(told[-2:], [[1, 0], [2, 0, 1]])

    def test_once_more_moves_none(self):
        told = ask(*THREE, pin(0, 1), MOVE, MOVE, pin(0, 4), MOVE, KEPT)
        self.assertEqual(told[-5:], [[2, 0], [0, 0], [1], [0, 0], [3, 1, 0, 2]])

    def test_of_new_meetings_too(self):
        told = ask(*THREE, meeting(0), KEPT, MOVE, KEPT)
        self.assertEqual(told[-3:], [[4, 0, 1, 2, -1], [0, 0], [4, 0, 1, 2, 3]])

    def test_step_by_step(self):
        told = ask(*THREE, cost(0, 0, 100), MOVE, KEPT, rooms(3, 0), MOVE, KEPT, rooms(1, 2), MOVE, KEPT)
        self.assertEqual(told[-9:], [[0], [1, 0], [3, 3, 1, 2], [1], [2, 0], [3, 1, 0, 2], [1], [0, 0], [3, 1, 0, 2]])

    def test_behind_a_drop(self):
        told = ask(*THREE, drop(0), pin(0, 0), MOVE, KEPT)
        self.assertEqual(told[-2:], [[1, 0], [2, 0, 2]])

    def test_behind_a_begin(self):
        told = ask(*THREE, begin(1, 2), MOVE, meeting(0), pin(0, 1), MOVE, KEPT)
        self.assertEqual(told[-5:], [[0, 0], [0], [2], [0, 0], [1, 1]])

    def test_a_drop_behind_a_move(self):
        self.assertEqual(last(*THREE, pin(0, 3), MOVE, drop(1), KEPT), [2, 3, 2])

    def test_a_begin_behind_a_move(self):
        self.assertEqual(last(*THREE, pin(0, 3), MOVE, begin(3, 4), meeting(0), KEPT), [1, -1])

    def test_keep_behind_a_move_keeps_the_best_again(self):
        told = ask(*THREE, pin(0, 3), MOVE, pin(0, 4), NEAREST, KEEP, KEPT)
        self.assertEqual(told[-3:], [[0, 0, 3, 1, 2], [0], [3, 0, 1, 2]])


class MoveRefuses(unittest.TestCase):
    def test_no_plan_can_be(self):
        self.assertEqual(last(begin(1, 1), meeting(0), meeting(0), MOVE), [-6])
        self.assertEqual(last(*THREE, *prices(1, 100, 100, 100, 100), MOVE), [-6])
        self.assertEqual(last(*THREE, pin(0, 2), pin(1, 2), MOVE), [-6])

    def test_a_refusal_changes_nothing(self):
        told = ask(*THREE, cost(2, 2, 8), pin(0, 2), pin(1, 2), MOVE, KEPT, SHARE, pin(1, 4), MOVE, KEPT)
        self.assertEqual(told[-6:], [[-6], [3, 0, 1, 2], [3, 0, 0, 8], [2], [2, 0], [3, 2, 1, 0]])

    def test_a_refusal_keeps_nothing_of_new_ones(self):
        self.assertEqual(ask(begin(1, 1), meeting(0), meeting(0), MOVE, KEPT)[-2:], [[-6], [2, -1, -1]])


if __name__ == "__main__":
    unittest.main()
