import unittest

from helper import KEEP, KEPT, MOVE, ask, begin, drop, last, meeting, pin, rooms

# Kept of the three are the hours 2, 0 and 1.
THREE = [begin(3, 3), meeting(0), meeting(1), meeting(2), pin(0, 2), pin(1, 0), pin(2, 1), KEEP]


class Kept(unittest.TestCase):
    def test_no_meetings(self):
        self.assertEqual(ask(KEPT), [[0]])
        self.assertEqual(last(begin(6, 5), KEPT), [0])
        self.assertEqual(last(*THREE, drop(0), drop(0), drop(0), KEPT), [0])

    def test_nothing_is_kept_of_a_new_meeting(self):
        for many in range(1, 6):
            self.assertEqual(last(begin(1, 5), *[meeting(0)] * many, KEPT), [many] + [-1] * many)

    def test_a_pin_keeps_nothing(self):
        self.assertEqual(last(begin(1, 2), meeting(0), pin(0, 1), KEPT), [1, -1])

    def test_the_hours_in_the_meetings_order(self):
        self.assertEqual(last(*THREE, KEPT), [3, 2, 0, 1])

    def test_hour_0_is_kept_and_is_not_none(self):
        self.assertEqual(ask(meeting(0), KEPT, KEEP, KEPT), [[0], [1, -1], [0], [1, 0]])

    def test_it_changes_nothing(self):
        self.assertEqual(ask(*THREE, KEPT, KEPT, MOVE, KEPT)[-4:], [[3, 2, 0, 1], [3, 2, 0, 1], [0, 0], [3, 2, 0, 1]])

    def test_a_new_meeting_stands_behind_with_none(self):
        self.assertEqual(last(*THREE, meeting(0), KEPT), [4, 2, 0, 1, -1])

    def test_a_refused_meeting_is_not_told(self):
        self.assertEqual(last(*THREE, meeting(0, 0), KEPT), [3, 2, 0, 1])

    def test_a_dropped_one_is_gone_with_what_is_kept_of_it(self):
        for number, wanted in [(0, [2, 0, 1]), (1, [2, 2, 1]), (2, [2, 2, 0]), (3, [3, 2, 0, 1])]:
            self.assertEqual(last(*THREE, drop(number), KEPT), wanted)

    def test_a_meeting_of_the_same_people_behind_a_drop_has_none(self):
        for number, wanted in [(0, [3, 0, 1, -1]), (1, [3, 2, 1, -1]), (2, [3, 2, 0, -1])]:
            self.assertEqual(last(*THREE, drop(number), meeting(number), KEPT), wanted)

    def test_behind_a_begin_nothing_is_kept(self):
        told = ask(*THREE, begin(3, 3), KEPT, meeting(0), KEPT)
        self.assertEqual(told[-4:], [[0], [0], [0], [1, -1]])

    def test_a_refused_begin_leaves_what_is_kept(self):
        for refused in [begin(0, 3), begin(7, 3), begin(3, 0), begin(3, 6)]:
            self.assertEqual(ask(*THREE, refused, KEPT)[-2:], [[-1], [3, 2, 0, 1]])

    def test_an_hour_stays_kept_that_cannot_be_any_more(self):
        self.assertEqual(last(*THREE, rooms(2, 0), pin(0, 0), KEPT), [3, 2, 0, 1])


if __name__ == "__main__":
    unittest.main()
