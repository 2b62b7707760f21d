"""Made lines of all calls, beside a second desk that goes by the document's words and tries all plans."""

import collections
import itertools
import random
import unittest

from helper import BEST, COUNT, KEEP, KEPT, MOVE, NEAREST, SHARE, WAY, ask, begin, cost, drop, meeting, pin, rooms

ASKING = [BEST, KEEP, NEAREST, MOVE, WAY, COUNT, KEPT, SHARE]


class SecondDesk:
    def __init__(self):
        self.start(1, 1)

    def start(self, people, hours):
        self.people, self.hours = people, hours
        self.price = {place: 0 for place in itertools.product(range(people), range(hours))}
        self.room = {hour: 1 for hour in range(hours)}
        self.meetings = []

    def can_be(self, meetings, plan):
        seats = [(person, hour) for one, hour in zip(meetings, plan) for person in one["people"]]
        taken = collections.Counter(plan)
        return (all(self.price[seat] < 100 for seat in seats)
                and all(one["pin"] in (None, hour) for one, hour in zip(meetings, plan))
                and len(seats) == len(set(seats))
                and all(taken[hour] <= self.room[hour] for hour in taken))

    def plans(self, meetings):
        return [plan for plan in itertools.product(range(self.hours), repeat=len(meetings))
                if self.can_be(meetings, plan)]

    def costs(self, plan):
        return sum(self.price[person, hour] for one, hour in zip(self.meetings, plan) for person in one["people"])

    def moves(self, plan):
        return sum(one["kept"] not in (None, hour) for one, hour in zip(self.meetings, plan))

    def hold(self, plan):
        for one, hour in zip(self.meetings, plan):
            one["kept"] = hour

    def begin(self, people, hours):
        if people not in range(1, 7) or hours not in range(1, 6):
            return [-1]
        self.start(people, hours)
        return [0]

    def cost(self, person, hour, price):
        if (person, hour) not in self.price or price > 100:
            return [-1]
        before, self.price[person, hour] = self.price[person, hour], price
        return [before]

    def rooms(self, hour, many):
        if hour not in self.room or many > 5:
            return [-1]
        before, self.room[hour] = self.room[hour], many
        return [before]

    def meeting(self, many, *people):
        if many == 0 or not set(people) <= set(range(self.people)) or len(set(people)) != many:
            return [-1]
        if len(self.meetings) == 5:
            return [-5]
        self.meetings.append({"people": people, "pin": None, "kept": None})
        return [len(self.meetings) - 1]

    def drop(self, number):
        if number >= len(self.meetings):
            return [-3]
        del self.meetings[number]
        return [len(self.meetings)]

    def pin(self, number, hour):
        if number >= len(self.meetings):
            return [-3]
        if hour > self.hours:
            return [-1]
        before = self.meetings[number]["pin"]
        self.meetings[number]["pin"] = None if hour == self.hours else hour
        return [self.hours if before is None else before]

    def best(self):
        return list(min([(self.costs(plan), *plan) for plan in self.plans(self.meetings)], default=(-6,)))

    def keep(self):
        told = self.best()
        if told != [-6]:
            self.hold(told[1:])
        return told[:1]

    def nearest(self):
        ranked = [(self.moves(plan), self.costs(plan), *plan) for plan in self.plans(self.meetings)]
        return list(min(ranked, default=(-6,)))

    def move(self):
        told = self.nearest()
        if told != [-6]:
            self.hold(told[2:])
        return told[:2]

    def way(self):
        numbers = range(len(self.meetings))
        groups = [group for many in numbers for group in itertools.combinations(numbers, many + 1)]
        stuck = [(len(group), *group) for group in groups if not self.plans([self.meetings[one] for one in group])]
        return list(min(stuck, default=(-6,)))

    def count(self):
        return [len(self.plans(self.meetings))]

    def kept(self):
        return [len(self.meetings)] + [-1 if one["kept"] is None else one["kept"] for one in self.meetings]

    def share(self):
        paid = collections.Counter()
        for one in self.meetings:
            if one["kept"] is not None:
                paid.update({person: self.price[person, one["kept"]] for person in one["people"]})
        return [self.people] + [paid[person] for person in range(self.people)]

    def answer(self, call):
        names = "begin cost rooms meeting drop pin best keep nearest move way count kept share".split()
        return getattr(self, names[call[0]])(*call[1:])


class Maker:
    """Makes lines of calls in which most calls are let, and some aren't."""

    def __init__(self, source):
        self.source = source
        self.people = source.randint(1, 6)
        self.hours = source.choice([1, 2, 3, 3, 4, 4, 5])
        self.cheap = source.choice([(0,), (0, 1), (0, 1, 2, 3), range(100)])
        self.bad = source.choice([0, 0, 1, 3])

    def number(self, below):
        """One below the bound, seldom one from it on."""
        if self.source.randrange(40) == 0:
            return self.source.choice([below, below + 1, 200])
        return self.source.randrange(below)

    def some_cost(self):
        price = self.source.choice(self.cheap)
        if self.source.randrange(10) < self.bad:
            price = self.source.choice([100, 100, 100, 101, 200])
        return cost(self.number(self.people), self.number(self.hours), price)

    def some_rooms(self):
        return rooms(self.number(self.hours), self.source.choice([0, 1, 1, 2, 2, 3, 5, self.number(6)]))

    def some_meeting(self):
        many = self.source.choice([1, 1, 2, 2, 3, self.people])
        people = self.source.sample(range(self.people), min(many, self.people))
        if self.source.randrange(20) == 0:
            people = [self.source.randrange(self.people + 1) for place in range(self.source.randint(0, 10))]
        return meeting(*people)

    def change(self):
        kind = self.source.randrange(20)
        if kind < 8:
            return self.some_cost()
        if kind < 11:
            return self.some_rooms()
        if kind < 14:
            return pin(self.number(4), self.number(self.hours + 1))
        if kind < 17:
            return self.some_meeting()
        if kind < 19:
            return drop(self.number(5))
        return self.source.choice([begin(0, 1), begin(1, 6), begin(7, 5)])

    def upset(self):
        """A plan is kept, and then some of it can't be any more."""
        calls = [KEEP]
        for number in range(self.source.randint(1, 3)):
            hour = self.source.randrange(self.hours)
            calls.append(self.source.choice([rooms(hour, self.source.randrange(2)), pin(self.source.randrange(3), hour),
                                             cost(self.source.randrange(self.people), hour, 100)]))
        return calls + [rooms(self.source.randrange(self.hours), 5), NEAREST, MOVE]

    def again(self):
        """A begin now and then that takes hold, with calls that fit it behind it."""
        self.people = self.source.randint(1, 6)
        self.hours = self.source.randint(1, 5)
        return [begin(self.people, self.hours)] + [self.some_meeting() for number in range(3)]

    def line(self):
        calls = [begin(self.people, self.hours)]
        calls += [self.some_cost() for number in range(self.source.randrange(12))]
        calls += [self.some_rooms() for number in range(self.source.randrange(4))]
        calls += [self.some_meeting() for number in range(self.source.randint(0, 5))]
        while len(calls) < 60:
            calls += [self.change() for number in range(self.source.randrange(3))]
            calls.append(self.source.choice(ASKING))
            if self.source.randrange(8) == 0:
                calls += self.upset()
            if self.source.randrange(40) == 0:
                calls += self.again()
        return calls[:self.source.randint(20, 60)]


class ManyLines(unittest.TestCase):
    def test_each_answer_is_as_the_second_desk_says(self):
        source = random.Random(814)
        seen = collections.Counter()
        for number in range(400):
            calls = Maker(source).line()
            second = SecondDesk()
            wanted = [second.answer(call) for call in calls]
            self.assertEqual(ask(*calls), wanted, calls)
            seen.update((call[0], told[0]) for call, told in zip(calls, wanted))
        self.see_that_the_lines_tell_enough(seen)

    def see_that_the_lines_tell_enough(self, seen):
        for code in (6, 7, 8, 9, 10):
            self.assertGreater(seen[code, -6], 50, code)
        for code in (8, 9):
            for moved in (0, 1, 2):
                self.assertGreater(seen[code, moved], 10, (code, moved))
        for many in (1, 2, 3):
            self.assertGreater(seen[10, many], 10, many)
        for code, refusal in [(0, -1), (1, -1), (2, -1), (3, -1), (3, -5), (4, -3), (5, -3)]:
            self.assertGreater(seen[code, refusal], 10, (code, refusal))


if __name__ == "__main__":
    unittest.main()
