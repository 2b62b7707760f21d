import unittest

from helper import BEST, ask, begin, cost, last, meeting, pin


class PinAnswers(unittest.TestCase):
    def test_the_hour_to_which_it_was_pinned(self):
        told = ask(begin(1, 4), meeting(0), pin(0, 3), pin(0, 0), pin(0, 2), pin(0, 2), pin(0, 1))
        self.assertEqual(told[2:], [[4], [3], [0], [2], [2]])

    def test_as_many_as_there_are_hours_is_none(self):
        for hours in range(1, 6):
            told = ask(begin(1, hours), meeting(0), pin(0, hours), pin(0, 0), pin(0, hours), pin(0, hours))
            self.assertEqual(told[2:], [[hours], [hours], [0], [hours]])

    def test_each_meeting_has_a_pin_of_its_own(self):
        told = ask(begin(1, 3), meeting(0), meeting(0), meeting(0), pin(1, 2), pin(2, 0), pin(0, 3), pin(1, 3),
                   pin(2, 3))
        self.assertEqual(told[4:], [[3], [3], [3], [2], [0]])

    def test_it_is_where_it_is_pinned(self):
        prices = [cost(0, 0, 5), cost(0, 1, 3), cost(0, 2, 8)]
        for hour, wanted in [(0, [5, 0]), (1, [3, 1]), (2, [8, 2]), (3, [3, 1])]:
            self.assertEqual(last(begin(1, 3), *prices, meeting(0), pin(0, hour), BEST), wanted)

    def test_pinned_to_none_again_it_is_free(self):
        told = ask(begin(1, 2), cost(0, 1, 9), meeting(0), pin(0, 1), BEST, pin(0, 2), BEST)
        self.assertEqual(told[3:], [[2], [9, 1], [1], [0, 0]])

    def test_an_hour_at_which_they_cannot_is_let(self):
        told = ask(begin(1, 2), cost(0, 1, 100), meeting(0), pin(0, 1), BEST, pin(0, 2), BEST)
        self.assertEqual(told[3:], [[2], [-6], [1], [0, 0]])


class PinRefuses(unittest.TestCase):
    def test_no_such_meeting(self):
        self.assertEqual(ask(pin(0, 0), meeting(0), pin(1, 0), pin(200, 0)), [[-3], [0], [-3], [-3]])

    def test_an_hour_above_how_many_there_are(self):
        for hours in range(1, 6):
            told = ask(begin(1, hours), meeting(0), pin(0, hours + 1), pin(0, 200))
            self.assertEqual(told[2:], [[-1], [-1]])

    def test_no_such_meeting_comes_ahead(self):
        told = ask(begin(2, 3), pin(0, 4), meeting(0), pin(1, 4), pin(200, 200), pin(0, 4))
        self.assertEqual(told[1:], [[-3], [0], [-3], [-3], [-1]])

    def test_a_refusal_changes_nothing(self):
        told = ask(begin(1, 3), meeting(0), pin(0, 1), pin(0, 4), pin(0, 200), pin(1, 2), BEST, pin(0, 1))
        self.assertEqual(told[3:], [[-1], [-1], [-3], [0, 1], [1]])


if __name__ == "__main__":
    unittest.main()
