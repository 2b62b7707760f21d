import unittest

from dayplansdesk.plans import answers
from helper import (BEST, COUNT, KEEP, KEPT, MOVE, NEAREST, SHARE, WAY, apart, begin, cost, drop, line, meeting, pin,
                    rooms)

LONG = line(begin(3, 3), cost(0, 0, 4), cost(1, 1, 100), cost(9, 0, 1), rooms(2, 2), rooms(0, 6), meeting(0, 1),
            meeting(), meeting(2, 2), meeting(1, 2), meeting(0), BEST, pin(0, 2), pin(2, 2), BEST, pin(2, 9), pin(9, 9),
            drop(0), BEST, drop(7), begin(0, 0), meeting(0, 1, 2), BEST, rooms(1, 0), pin(0, 1), BEST, begin(1, 1),
            BEST, begin(2, 3), cost(1, 0, 6), meeting(0), meeting(0, 1), KEEP, KEPT, SHARE, COUNT, rooms(1, 0), NEAREST,
            MOVE, KEPT, SHARE, WAY, pin(0, 2), pin(1, 2), WAY, COUNT, KEEP, NEAREST, MOVE, KEPT, pin(1, 3), MOVE, KEPT,
            drop(0), KEPT, begin(1, 2), KEPT, SHARE)


class ReadOnly(list):
    """A list that tells at once when it is changed, be it only for a while."""

    def changed(self, *given, **named):
        raise AssertionError("the list that was handed in was changed")

    append = clear = extend = insert = pop = remove = reverse = sort = changed
    __setitem__ = __delitem__ = __iadd__ = __imul__ = changed


class Line(unittest.TestCase):
    def test_counts_stand_ahead_of_the_answers(self):
        self.assertEqual(answers([0, 2, 2, 1, 0, 0, 5, 3, 1, 0, 3, 2, 1, 0, 6, 5, 9, 9]),
                         [1, 0, 1, 0, 1, 0, 1, 1, 3, 5, 0, 1, 1, -3])

    def test_one_call(self):
        self.assertEqual(answers([6]), [1, 0])
        self.assertEqual(answers([3, 0]), [1, -1])
        self.assertEqual(answers([3, 10, 0, 1, 2, 3, 4, 5, 6, 7, 8, 9]), [1, -1])

    def test_counts_stand_ahead_of_the_answers_of_each_call_without_numbers(self):
        self.assertEqual(answers([6, 7, 8, 9, 10, 11, 12, 13]),
                         [1, 0, 1, 0, 2, 0, 0, 2, 0, 0, 1, -6, 1, 1, 1, 0, 2, 1, 0])
        self.assertEqual(answers([3, 1, 0, 12, 13, 6, 7, 8, 9, 10, 11, 12, 13]),
                         [1, 0, 2, 1, -1, 2, 1, 0, 2, 0, 0, 1, 0, 3, 0, 0, 0, 2, 0, 0, 1, -6, 1, 1, 2, 1, 0, 2, 1, 0])
        self.assertEqual(answers([3, 1, 0, 3, 1, 0, 6, 7, 8, 9, 10, 11, 12, 13]),
                         [1, 0, 1, 1, 1, -6, 1, -6, 1, -6, 1, -6, 3, 2, 0, 1, 1, 0, 3, 2, -1, -1, 2, 1, 0])

    def test_a_refused_row_is_stepped_over_whole(self):
        self.assertEqual(apart(answers(line(meeting(6, 6, 6), meeting(), meeting(*[0] * 10), BEST, meeting(0)))),
                         [[-1], [-1], [-1], [0], [0]])

    def test_a_long_line(self):
        told = answers(LONG)
        self.assertEqual(apart(told), [
            [0], [0], [0], [-1], [1], [-1], [0],
            [-1], [-1], [1], [2], [0, 2, 0, 1], [3], [3], [-6], [-1], [-3],
            [2], [0, 0, 2], [-3], [-1], [2], [4, 2, 2, 0], [1], [3], [-6], [0],
            [0], [0], [0], [0], [1], [0], [2, 0, 1], [2, 0, 0], [6], [1], [1, 0, 0, 2],
            [1, 0], [2, 0, 2], [2, 0, 0], [-6], [3], [3], [2, 0, 1], [0], [-6], [-6], [-6], [2, 0, 2], [2], [2, 6],
            [2, 2, 0], [1], [1, 0], [0], [0], [1, 0]])

    def test_sixty_calls_of_the_widest_search(self):
        wide = line(begin(6, 5), *[rooms(hour, 5) for hour in range(5)], *[meeting(person) for person in range(5)])
        for call, wanted in [(BEST, [0, 0, 0, 0, 0, 0]), (KEEP, [0]), (NEAREST, [0, 0, 0, 0, 0, 0, 0]), (MOVE, [0, 0]),
                             (WAY, [-6]), (COUNT, [3125]), (KEPT, [5, -1, -1, -1, -1, -1]),
                             (SHARE, [6, 0, 0, 0, 0, 0, 0])]:
            told = apart(answers(wide + call * 49))
            self.assertEqual(told[11:], [wanted] * 49, call)

    def test_the_list_handed_in_is_as_it_was(self):
        handed = list(LONG)
        answers(handed)
        self.assertEqual(handed, LONG)

    def test_the_list_handed_in_is_not_changed_for_a_while_either(self):
        self.assertEqual(answers(ReadOnly(LONG)), answers(LONG))

    def test_the_same_list_twice_gives_the_same(self):
        first = answers(LONG)
        wanted = list(first)
        first.clear()
        self.assertEqual(answers([0, 6, 5, 3, 1, 5, 5, 0, 3]), [1, 0, 1, 0, 1, 5])
        self.assertEqual(answers(LONG), wanted)

    def test_only_whole_numbers_are_answered(self):
        told = answers(LONG)
        self.assertIs(type(told), list)
        self.assertEqual({type(number) for number in told}, {int})


if __name__ == "__main__":
    unittest.main()
