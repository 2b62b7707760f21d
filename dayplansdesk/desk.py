"""The desk: what each call does, and the numbers that it answers."""

from dayplansdesk.keeping import keep_plan, kept_cost, moved_count
from dayplansdesk.search import best_plan, in_the_way, nearest_plan, plan_cost, possible_plans
from dayplansdesk.world import CANNOT, Meeting, World

MOST_PEOPLE = 6
MOST_HOURS = 5
MOST_ROOMS = 5
MOST_MEETINGS = 5

NOT_LET = -1
NO_SUCH_MEETING = -3
TOO_MANY_MEETINGS = -5
NO_PLAN = -6
ALL_CAN_BE = -6


class Desk:
    """Each call gives back the list of its answers, or of its refusal alone."""

    def __init__(self):
        self.world = World(1, 1)

    def begin(self, people_count, hour_count):
        if not 1 <= people_count <= MOST_PEOPLE or not 1 <= hour_count <= MOST_HOURS:
            return [NOT_LET]
        self.world = World(people_count, hour_count)
        return [0]

    def cost(self, person, hour, price):
        if person >= self.world.people_count or hour >= self.world.hour_count or price > CANNOT:
            return [NOT_LET]
        before = self.world.prices[person][hour]
        self.world.prices[person][hour] = price
        return [before]

    def rooms(self, hour, many):
        if hour >= self.world.hour_count or many > MOST_ROOMS:
            return [NOT_LET]
        before = self.world.room_counts[hour]
        self.world.room_counts[hour] = many
        return [before]

    def meeting(self, people):
        if not self.can_be_invited(people):
            return [NOT_LET]
        number = len(self.world.meetings)
        if number == MOST_MEETINGS:
            return [TOO_MANY_MEETINGS]
        self.world.meetings.append(Meeting(people, self.world.hour_count))
        return [number]

    def can_be_invited(self, people):
        if len(people) == 0 or len(set(people)) < len(people):
            return False
        return max(people) < self.world.people_count

    def drop(self, number):
        if number >= len(self.world.meetings):
            return [NO_SUCH_MEETING]
        self.world.meetings.pop(number)
        return [len(self.world.meetings)]

    def pin(self, number, hour):
        if number >= len(self.world.meetings):
            return [NO_SUCH_MEETING]
        # As many as there are hours is let: it stands for no hour.
        if hour > self.world.hour_count:
            return [NOT_LET]
        pinning = self.world.meetings[number]
        before = pinning.pinned
        pinning.pinned = hour
        return [before]

    def best(self):
        plan = best_plan(self.world)
        if plan is None:
            return [NO_PLAN]
        return [self.cost_of(plan)] + plan

    def keep(self):
        plan = best_plan(self.world)
        if plan is None:
            return [NO_PLAN]
        keep_plan(self.world.meetings, plan)
        return [self.cost_of(plan)]

    def nearest(self):
        plan = nearest_plan(self.world)
        if plan is None:
            return [NO_PLAN]
        return [moved_count(self.world.meetings, plan), self.cost_of(plan)] + plan

    def move(self):
        plan = nearest_plan(self.world)
        if plan is None:
            return [NO_PLAN]
        # Counted ahead of keeping: once the plan is kept, it moves none.
        moved = moved_count(self.world.meetings, plan)
        keep_plan(self.world.meetings, plan)
        return [moved, self.cost_of(plan)]

    def cost_of(self, plan):
        return plan_cost(self.world, self.world.meetings, plan)

    def way(self):
        numbers = in_the_way(self.world)
        if numbers is None:
            return [ALL_CAN_BE]
        return [len(numbers)] + numbers

    def count(self):
        return [len(possible_plans(self.world, self.world.meetings))]

    def kept(self):
        hours = [meeting.kept_hour for meeting in self.world.meetings]
        return [len(hours)] + hours

    def share(self):
        people_count = self.world.people_count
        return [people_count] + [kept_cost(self.world, person) for person in range(people_count)]
