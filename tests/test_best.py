import itertools
import random
import unittest

from helper import BEST, ask, begin, cost, drop, last, meeting, pin, prices, rooms


class BestByHand(unittest.TestCase):
    def test_no_meetings(self):
        self.assertEqual(ask(BEST), [[0]])
        self.assertEqual(last(begin(6, 5), rooms(0, 0), *prices(0, 100, 100, 100, 100, 100), BEST), [0])

    def test_the_least_cost(self):
        self.assertEqual(last(begin(1, 5), *prices(0, 4, 3, 1, 2, 9), meeting(0), BEST), [1, 2])

    def test_the_cost_is_added_over_all_who_come(self):
        self.assertEqual(last(begin(3, 2), *prices(0, 0, 4), *prices(1, 9, 4), *prices(2, 99, 0), meeting(0, 1), BEST),
                         [8, 1])

    def test_who_comes_to_two_meetings_pays_for_both(self):
        self.assertEqual(last(begin(1, 2), *prices(0, 3, 5), meeting(0), meeting(0), BEST), [8, 0, 1])

    def test_the_greatest_cost(self):
        dear = [cost(person, hour, 99) for person in range(6) for hour in range(5)]
        self.assertEqual(last(begin(6, 5), *dear, *[meeting(0, 1, 2, 3, 4, 5)] * 5, BEST), [2970, 0, 1, 2, 3, 4])

    def test_of_the_cheapest_the_first(self):
        self.assertEqual(last(begin(1, 3), meeting(0), meeting(0), BEST), [0, 0, 1])
        self.assertEqual(last(begin(1, 3), *prices(0, 5, 2, 2), meeting(0), meeting(0), BEST), [4, 1, 2])

    def test_the_first_goes_by_the_first_meeting(self):
        told = last(begin(2, 3), *prices(0, 1, 1, 0), *prices(1, 0, 1, 1), meeting(0), meeting(1), BEST)
        self.assertEqual(told, [0, 2, 0])
        told = last(begin(2, 2), *prices(0, 0, 5), *prices(1, 0, 5), meeting(0), meeting(1), BEST)
        self.assertEqual(told, [5, 0, 1])

    def test_a_cheap_hour_is_left_to_whom_it_saves_more(self):
        self.assertEqual(last(begin(2, 2), *prices(0, 0, 1), *prices(1, 0, 9), meeting(0), meeting(1), BEST),
                         [1, 1, 0])

    def test_no_one_is_in_two_meetings_at_one_hour(self):
        world = [begin(3, 2), rooms(0, 5), rooms(1, 5), *prices(1, 0, 7)]
        self.assertEqual(last(*world, meeting(0, 1), meeting(1, 2), BEST), [7, 0, 1])
        self.assertEqual(last(*world, meeting(0, 1), meeting(2), BEST), [0, 0, 0])
        self.assertEqual(last(*world, meeting(0), meeting(1), meeting(2, 0), BEST), [0, 0, 0, 1])

    def test_hours_at_which_someone_cannot(self):
        self.assertEqual(last(begin(2, 3), *prices(0, 100, 0, 50), *prices(1, 0, 100, 49), meeting(0, 1), BEST),
                         [99, 2])

    def test_hours_at_which_someone_who_does_not_come_cannot(self):
        self.assertEqual(last(begin(2, 1), cost(1, 0, 100), meeting(0), BEST), [0, 0])

    def test_several_prices_may_reach_100_together(self):
        self.assertEqual(last(begin(2, 1), cost(0, 0, 50), cost(1, 0, 50), meeting(0, 1), BEST), [100, 0])

    def test_few_rooms(self):
        world = [begin(3, 2), *[cost(person, 1, 2 + person) for person in range(3)], meeting(0), meeting(1),
                 meeting(2)]
        told = ask(*world, BEST, rooms(0, 2), BEST, rooms(0, 3), BEST, rooms(0, 0), BEST, rooms(1, 3), BEST)
        self.assertEqual(told[7::2], [[-6], [2, 1, 0, 0], [0, 0, 0, 0], [-6], [9, 1, 1, 1]])

    def test_no_room(self):
        self.assertEqual(last(rooms(0, 0), meeting(0), BEST), [-6])
        self.assertEqual(last(begin(1, 2), cost(0, 1, 3), rooms(0, 0), meeting(0), BEST), [3, 1])

    def test_pins_that_stand_in_one_anothers_way(self):
        world = [begin(2, 2), rooms(0, 2), meeting(0), meeting(1), meeting(0, 1)]
        told = ask(*world, BEST, pin(0, 1), BEST, rooms(1, 2), BEST, pin(1, 0), BEST, pin(0, 0), BEST)
        self.assertEqual(told[5::2], [[0, 0, 0, 1], [-6], [0, 1, 1, 0], [-6], [0, 0, 0, 1]])

    def test_more_meetings_of_one_than_hours(self):
        self.assertEqual(last(begin(1, 2), rooms(0, 5), rooms(1, 5), *[meeting(0)] * 3, BEST), [-6])

    def test_asking_changes_nothing(self):
        world = [begin(2, 2), *prices(0, 0, 1), *prices(1, 0, 9), meeting(0), meeting(1)]
        told = ask(*world, BEST, BEST, pin(0, 2), pin(1, 2), rooms(0, 1), BEST)
        self.assertEqual(told[-6:], [[1, 1, 0], [1, 1, 0], [2], [2], [1], [1, 1, 0]])

    def test_a_refusal_of_best_changes_nothing(self):
        told = ask(begin(1, 1), meeting(0), meeting(0), BEST, BEST, drop(1), BEST)
        self.assertEqual(told[3:], [[-6], [-6], [1], [0, 0]])


class Sample:
    """A world of its own making, and its best plan found by trying all plans."""

    def __init__(self, source):
        self.people = source.randint(1, 6)
        self.hours = source.randint(1, 5)
        few = source.choice([(0, 1), (0, 1, 2), (0, 30, 99), range(100)])
        cannot = source.choice([0, 1, 3])
        self.prices = [[100 if source.randrange(10) < cannot else source.choice(few) for hour in range(self.hours)]
                       for person in range(self.people)]
        self.rooms = [source.choice([0, 1, 1, 2, 2, 3, 5]) for hour in range(self.hours)]
        most = source.choice([1, 2, self.people])
        self.meetings = [source.sample(range(self.people), source.randint(1, min(most, self.people)))
                         for number in range(source.randint(1, 5))]
        self.pins = [source.randrange(self.hours) if source.randrange(5) == 0 else self.hours
                     for number in self.meetings]

    def setting(self):
        calls = [begin(self.people, self.hours)]
        calls += [call for person in range(self.people) for call in prices(person, *self.prices[person])]
        calls += [rooms(hour, many) for hour, many in enumerate(self.rooms)]
        calls += [meeting(*people) for people in self.meetings]
        return calls + [pin(number, hour) for number, hour in enumerate(self.pins)]

    def can_be(self, plan):
        booked = [(person, hour) for people, hour in zip(self.meetings, plan) for person in people]
        return (all(self.prices[person][hour] < 100 for person, hour in booked)
                and len(set(booked)) == len(booked)
                and all(to in (self.hours, hour) for to, hour in zip(self.pins, plan))
                and all(plan.count(hour) <= many for hour, many in enumerate(self.rooms)))

    def price(self, plan):
        return sum(self.prices[person][hour] for people, hour in zip(self.meetings, plan) for person in people)

    def best(self):
        plans = itertools.product(range(self.hours), repeat=len(self.meetings))
        ranked = [(self.price(plan), *plan) for plan in plans if self.can_be(plan)]
        return list(min(ranked, default=(-6,)))


class BestByTryingAll(unittest.TestCase):
    def test_many_worlds(self):
        source = random.Random(92)
        refused = 0
        for number in range(1500):
            sample = Sample(source)
            wanted = sample.best()
            refused += wanted == [-6]
            self.assertEqual(last(*sample.setting(), BEST), wanted, vars(sample))
        self.assertTrue(300 < refused < 1200, refused)


if __name__ == "__main__":
    unittest.main()
