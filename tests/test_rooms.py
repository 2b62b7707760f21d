import unittest

from helper import BEST, ask, begin, cost, last, meeting, rooms


class RoomsAnswers(unittest.TestCase):
    def test_how_many_there_were(self):
        told = ask(begin(1, 2), rooms(1, 0), rooms(1, 5), rooms(1, 3), rooms(1, 1), rooms(0, 2))
        self.assertEqual(told[1:], [[1], [0], [5], [3], [1]])

    def test_each_hour_has_rooms_of_its_own(self):
        told = ask(begin(1, 5), *[rooms(hour, hour) for hour in range(5)], *[rooms(hour, 5) for hour in range(5)])
        self.assertEqual(told[6:], [[0], [1], [2], [3], [4]])

    def test_just_so_many_meetings_have_room(self):
        for many in range(6):
            for meetings in range(6):
                calls = [begin(6, 1), rooms(0, many)] + [meeting(person) for person in range(meetings)]
                wanted = [0] + [0] * meetings if meetings <= many else [-6]
                self.assertEqual(last(*calls, BEST), wanted, (many, meetings))

    def test_rooms_count_for_meetings_that_are_there_already(self):
        told = ask(begin(2, 1), meeting(0), meeting(1), BEST, rooms(0, 2), BEST, rooms(0, 1), BEST)
        self.assertEqual(told[3::2], [[-6], [0, 0, 0], [-6]])


class RoomsRefuses(unittest.TestCase):
    def test_more_than_5(self):
        self.assertEqual(ask(rooms(0, 6), rooms(0, 200), rooms(0, 5), rooms(0, 0)), [[-1], [-1], [1], [5]])

    def test_no_such_hour(self):
        for hour in [3, 4, 5, 200]:
            self.assertEqual(last(begin(6, 3), rooms(hour, 1)), [-1])

    def test_a_refusal_changes_nothing(self):
        told = ask(begin(2, 2), rooms(0, 3), rooms(1, 4), rooms(1, 6), rooms(2, 1), rooms(200, 200),
                   rooms(0, 3), rooms(1, 4), cost(0, 0, 0), cost(1, 1, 0))
        self.assertEqual(told[3:], [[-1], [-1], [-1], [3], [4], [0], [0]])


if __name__ == "__main__":
    unittest.main()
