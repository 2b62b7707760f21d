import itertools
import unittest

from helper import BEST, COUNT, KEEP, KEPT, WAY, ask, begin, cost, drop, last, meeting, pin, prices, rooms


def wide_rooms(hours):
    return [rooms(hour, 5) for hour in range(hours)]


class WayByHand(unittest.TestCase):
    def test_one_that_cannot_be_by_itself(self):
        self.assertEqual(last(begin(2, 2), meeting(0), meeting(1), *prices(1, 100, 100), WAY), [1, 1])
        self.assertEqual(last(begin(2, 2), *prices(0, 100, 0), *prices(1, 0, 100), meeting(0, 1), WAY), [1, 0])
        self.assertEqual(last(begin(1, 2), cost(0, 1, 100), meeting(0), pin(0, 1), WAY), [1, 0])
        self.assertEqual(last(rooms(0, 0), meeting(0), WAY), [1, 0])

    def test_two_of_the_same_person(self):
        self.assertEqual(last(begin(3, 1), *wide_rooms(1), meeting(0), meeting(1, 2), meeting(2), WAY), [2, 1, 2])

    def test_two_at_one_room(self):
        self.assertEqual(last(begin(2, 1), meeting(0), meeting(1), WAY), [2, 0, 1])

    def test_two_pinned_to_one_hour(self):
        self.assertEqual(last(begin(3, 3), meeting(0), meeting(1), meeting(2), pin(0, 1), pin(2, 1), WAY), [2, 0, 2])

    def test_just_one_more_than_there_is_room_for(self):
        for hours in range(1, 5):
            calls = [begin(6, hours)] + [meeting(person) for person in range(5)]
            self.assertEqual(last(*calls, WAY), [hours + 1, *range(hours + 1)])

    def test_three_of_one_person_at_two_hours(self):
        world = [begin(2, 2), *wide_rooms(2), meeting(1), meeting(0), meeting(0), meeting(1), meeting(0)]
        self.assertEqual(last(*world, WAY), [3, 1, 2, 4])

    def test_a_ring_of_three_at_two_hours(self):
        ring = [meeting(0, 1), meeting(1, 2), meeting(2, 0)]
        self.assertEqual(last(begin(3, 2), *wide_rooms(2), *ring, WAY), [3, 0, 1, 2])
        self.assertEqual(last(begin(3, 3), *wide_rooms(3), *ring, WAY), [-6])

    def test_a_ring_of_five_at_two_hours(self):
        ring = [meeting(person, (person + 1) % 5) for person in range(5)]
        self.assertEqual(last(begin(5, 2), *wide_rooms(2), *ring, WAY), [5, 0, 1, 2, 3, 4])

    def test_as_few_as_there_are_even_if_the_numbers_are_higher(self):
        world = [begin(4, 2), *wide_rooms(2), meeting(0, 1), meeting(1, 2), meeting(2, 0), meeting(3), meeting(3)]
        self.assertEqual(last(*world, pin(3, 1), pin(4, 1), WAY), [2, 3, 4])
        self.assertEqual(last(*world, pin(3, 1), pin(4, 1), *prices(3, 0, 100), WAY), [1, 3])

    def test_of_as_few_the_first(self):
        self.assertEqual(last(begin(1, 1), meeting(0), meeting(0), meeting(0), WAY), [2, 0, 1])
        self.assertEqual(last(begin(2, 1), *prices(0, 100), *prices(1, 100), meeting(1), meeting(0), WAY), [1, 0])
        pairs = [begin(4, 1), *wide_rooms(1)]
        self.assertEqual(last(*pairs, meeting(0), meeting(1), meeting(1), meeting(0), WAY), [2, 0, 3])
        self.assertEqual(last(*pairs, meeting(2), meeting(0), meeting(1), meeting(0), meeting(1), WAY), [2, 1, 3])
        self.assertEqual(last(*pairs, meeting(2), meeting(0), meeting(1), meeting(1), meeting(0), WAY), [2, 1, 4])

    def test_the_cost_does_not_count(self):
        world = [begin(2, 1), *wide_rooms(1), *prices(0, 99), meeting(0), meeting(0), meeting(1), meeting(1)]
        self.assertEqual(last(*world, WAY), [2, 0, 1])

    def test_numbers_go_by_the_order_of_now(self):
        told = ask(begin(3, 1), *wide_rooms(1), meeting(0), meeting(1), meeting(2), meeting(1), WAY, drop(0), WAY,
                   drop(2), WAY)
        self.assertEqual(told[-5:], [[2, 1, 3], [3], [2, 0, 2], [2], [-6]])

    def test_what_is_kept_does_not_count(self):
        told = ask(begin(2, 2), meeting(0), meeting(1), KEEP, pin(0, 1), WAY, rooms(0, 0), WAY)
        self.assertEqual(told[-3:], [[-6], [1], [2, 0, 1]])

    def test_any_one_left_out_the_others_can_be(self):
        worlds = [[begin(5, 2), *wide_rooms(2), *[meeting(person, (person + 1) % 5) for person in range(5)]],
                  [begin(5, 4), *[meeting(person) for person in range(5)]],
                  [begin(3, 2), *wide_rooms(2), meeting(0, 1), meeting(1, 2), meeting(0, 2)]]
        for world in worlds:
            many, *numbers = last(*world, WAY)
            self.assertEqual(many, len(numbers))
            for number in numbers:
                self.assertGreater(last(*world, drop(number), COUNT)[0], 0)


class WayRefuses(unittest.TestCase):
    def test_all_can_be(self):
        self.assertEqual(last(begin(1, 5), *[meeting(0)] * 5, WAY), [-6])
        self.assertEqual(last(begin(1, 5), meeting(0), WAY), [-6])

    def test_no_meetings(self):
        self.assertEqual(ask(WAY), [[-6]])
        self.assertEqual(ask(begin(1, 1), *prices(0, 100), rooms(0, 0), WAY)[-1], [-6])

    def test_it_changes_nothing(self):
        told = ask(begin(2, 2), meeting(0), meeting(1), KEEP, WAY, KEPT, BEST, pin(0, 1), pin(1, 1), WAY, WAY, KEPT,
                   pin(0, 2), pin(1, 2), BEST)
        self.assertEqual(told[4:], [[-6], [2, 0, 1], [0, 0, 1], [2], [2], [2, 0, 1], [2, 0, 1], [2, 0, 1],
                                    [1], [1], [0, 0, 1]])


class WayOfPairs(unittest.TestCase):
    def test_each_two_of_five(self):
        others = [1, 2, 3, 4, 5]
        for pair in itertools.combinations(range(5), 2):
            people = [0 if number in pair else others[number] for number in range(5)]
            told = last(begin(6, 1), *wide_rooms(1), *[meeting(person) for person in people], WAY)
            self.assertEqual(told, [2, *pair])

    def test_each_three_of_five(self):
        others = [1, 2, 3, 4, 5]
        for three in itertools.combinations(range(5), 3):
            people = [0 if number in three else others[number] for number in range(5)]
            told = last(begin(6, 2), *wide_rooms(2), *[meeting(person) for person in people], WAY)
            self.assertEqual(told, [3, *three])

    def test_each_one_of_five(self):
        for number in range(5):
            told = last(begin(6, 1), *wide_rooms(1), *[meeting(person) for person in range(5)], cost(number, 0, 100),
                        WAY)
            self.assertEqual(told, [1, number])


if __name__ == "__main__":
    unittest.main()
