import math
import unittest

from helper import COUNT, KEEP, KEPT, ask, begin, cost, drop, last, meeting, pin, prices, rooms


class Count(unittest.TestCase):
    def test_no_meetings(self):
        self.assertEqual(ask(COUNT), [[1]])
        self.assertEqual(last(begin(6, 5), rooms(0, 0), *prices(0, 100, 100, 100, 100, 100), COUNT), [1])

    def test_none_can_be(self):
        self.assertEqual(last(begin(1, 1), meeting(0), meeting(0), COUNT), [0])
        self.assertEqual(last(rooms(0, 0), meeting(0), COUNT), [0])

    def test_one_meeting_at_each_hour(self):
        for hours in range(1, 6):
            self.assertEqual(last(begin(1, hours), meeting(0), COUNT), [hours])

    def test_one_room_at_each_hour(self):
        for hours in range(1, 6):
            for meetings in range(1, 6):
                calls = [begin(6, hours)] + [meeting(person) for person in range(meetings)]
                self.assertEqual(last(*calls, COUNT), [math.perm(hours, meetings)])

    def test_all_plans_there_are(self):
        wide = [begin(6, 5)] + [rooms(hour, 5) for hour in range(5)] + [meeting(person) for person in range(5)]
        self.assertEqual(last(*wide, COUNT), [3125])
        self.assertEqual(last(*wide, rooms(0, 4), COUNT), [3124])
        self.assertEqual(last(*wide, rooms(0, 0), COUNT), [1024])

    def test_who_has_to_come_to_two(self):
        wide = [begin(3, 3)] + [rooms(hour, 5) for hour in range(3)]
        self.assertEqual(last(*wide, meeting(0, 1), meeting(1, 2), COUNT), [6])
        self.assertEqual(last(*wide, meeting(0, 1), meeting(2), COUNT), [9])

    def test_hours_at_which_they_cannot_and_pins(self):
        world = [begin(2, 4), meeting(0), meeting(1)]
        self.assertEqual(last(*world, COUNT), [12])
        self.assertEqual(last(*world, cost(0, 0, 100), COUNT), [9])
        self.assertEqual(last(*world, pin(0, 0), COUNT), [3])
        self.assertEqual(last(*world, pin(0, 0), pin(1, 3), COUNT), [1])
        self.assertEqual(last(*world, pin(0, 0), pin(1, 0), COUNT), [0])
        self.assertEqual(last(*world, pin(0, 0), pin(0, 4), COUNT), [12])

    def test_the_cost_does_not_count(self):
        self.assertEqual(last(begin(1, 3), *prices(0, 99, 0, 5), meeting(0), COUNT), [3])

    def test_what_is_kept_does_not_count(self):
        self.assertEqual(ask(begin(1, 3), meeting(0), COUNT, KEEP, COUNT, KEPT)[2:], [[3], [0], [3], [1, 0]])

    def test_behind_a_drop_and_a_begin(self):
        told = ask(begin(1, 3), meeting(0), meeting(0), COUNT, drop(0), COUNT, begin(1, 2), COUNT)
        self.assertEqual(told[3::2], [[6], [3], [1]])

    def test_it_changes_nothing(self):
        self.assertEqual(ask(begin(1, 3), meeting(0), COUNT, COUNT, KEPT)[2:], [[3], [3], [1, -1]])


if __name__ == "__main__":
    unittest.main()
