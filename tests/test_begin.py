import unittest

from helper import BEST, ask, begin, cost, drop, last, meeting, pin, rooms


class BeginLets(unittest.TestCase):
    def test_all_sizes_that_are_let(self):
        for people in range(1, 7):
            for hours in range(1, 6):
                self.assertEqual(ask(begin(people, hours)), [[0]])

    def test_there_are_just_so_many_people(self):
        for people in range(1, 7):
            told = ask(begin(people, 1), cost(people - 1, 0, 5), cost(people, 0, 5))
            self.assertEqual(told[1:], [[0], [-1]])

    def test_there_are_just_so_many_hours(self):
        for hours in range(1, 6):
            told = ask(begin(1, hours), rooms(hours - 1, 2), rooms(hours, 2))
            self.assertEqual(told[1:], [[1], [-1]])

    def test_all_can_at_no_cost_and_each_hour_has_one_room(self):
        told = ask(begin(6, 5), *[cost(person, hour, 7) for person in range(6) for hour in range(5)],
                   *[rooms(hour, 3) for hour in range(5)])
        self.assertEqual(told, [[0]] + [[0]] * 30 + [[1]] * 5)


class BeginRefuses(unittest.TestCase):
    def test_sizes_that_are_not_let(self):
        for people, hours in [(0, 1), (7, 1), (1, 0), (1, 6), (0, 0), (7, 6), (200, 1), (1, 200), (200, 200),
                              (0, 5), (6, 0), (6, 6), (7, 5), (6, 200), (200, 5)]:
            self.assertEqual(ask(begin(people, hours)), [[-1]], (people, hours))

    def test_a_refusal_changes_nothing(self):
        for refused in [begin(0, 2), begin(7, 2), begin(3, 0), begin(3, 6), begin(200, 200)]:
            told = ask(begin(2, 3), cost(1, 2, 9), rooms(2, 4), meeting(1), pin(0, 2), refused,
                       cost(1, 2, 9), rooms(2, 4), pin(0, 2), BEST, cost(2, 0, 1), rooms(3, 1))
            self.assertEqual(told[5:], [[-1], [9], [4], [2], [9, 2], [-1], [-1]], refused)


class BeginAgain(unittest.TestCase):
    def test_in_the_middle_all_is_new(self):
        told = ask(begin(2, 2), cost(0, 0, 100), cost(1, 1, 8), rooms(0, 0), rooms(1, 5), meeting(0, 1), pin(0, 1),
                   begin(2, 2), BEST, cost(0, 0, 1), cost(1, 1, 1), rooms(0, 1), rooms(1, 1), drop(0),
                   meeting(0), pin(0, 0))
        self.assertEqual(told[7:], [[0], [0], [0], [0], [1], [1], [-3], [0], [2]])

    def test_another_size(self):
        told = ask(begin(6, 5), begin(1, 2), cost(1, 0, 1), rooms(2, 1), cost(0, 1, 1),
                   begin(3, 4), cost(2, 3, 1), cost(3, 0, 1), rooms(4, 1))
        self.assertEqual(told, [[0], [0], [-1], [-1], [0], [0], [0], [-1], [-1]])

    def test_at_the_end(self):
        self.assertEqual(last(begin(2, 2), meeting(0), begin(2, 2)), [0])


class NoBeginAhead(unittest.TestCase):
    def test_one_person_one_hour_one_room_no_meetings(self):
        told = ask(BEST, drop(0), pin(0, 0), cost(0, 0, 3), cost(1, 0, 3), cost(0, 1, 3),
                   rooms(0, 1), rooms(1, 1), meeting(0), meeting(1), pin(0, 0), BEST)
        self.assertEqual(told, [[0], [-3], [-3], [0], [-1], [-1], [1], [-1], [0], [-1], [1], [3, 0]])


if __name__ == "__main__":
    unittest.main()
