"""Plans: a plan of some meetings is the list of their hours, in the meetings' order."""

from dayplansdesk.keeping import moved_count
from dayplansdesk.world import CANNOT


def all_can(world, meeting, hour):
    return all([world.prices[person][hour] != CANNOT for person in meeting.people])


def pin_lets(world, meeting, hour):
    return meeting.pinned == hour or meeting.pinned == world.hour_count


def hours_alone(world, meeting):
    """The hours, rising, that the meeting could have as far as its own people and its pin go."""
    pin_hours = [hour for hour in range(world.hour_count) if pin_lets(world, meeting, hour)]
    return [hour for hour in pin_hours if all_can(world, meeting, hour)]


def share_people(one, other):
    return any([person in other.people for person in one.people])


def fits(world, meetings, plan, hour):
    """Whether the first meeting that the plan doesn't have yet can join it at the hour."""
    if plan.count(hour) >= world.room_counts[hour]:
        return False
    joining = meetings[len(plan)]
    for place, other_hour in enumerate(plan):
        if other_hour == hour and share_people(joining, meetings[place]):
            return False
    return True


def possible_plans(world, meetings):
    """All plans of the meetings that can be, in the order of plans."""
    plans = [[]]
    for meeting in meetings:
        hours = hours_alone(world, meeting)
        longer = []
        # Plans in order, each followed by hours that rise, keep the longer plans in order too.
        for plan in plans:
            longer.extend([plan + [hour] for hour in hours if fits(world, meetings, plan, hour)])
        plans = longer
    return plans


def plan_cost(world, meetings, plan):
    total = 0
    for meeting, hour in zip(meetings, plan):
        total += sum([world.prices[person][hour] for person in meeting.people])
    return total


def best_plan(world):
    """The first of the cheapest plans of all meetings, or None if no plan can be."""
    meetings = world.meetings
    plans = possible_plans(world, meetings)
    # Of equals min takes the one that comes first, and the plans come in order.
    return min(plans, key=lambda plan: plan_cost(world, meetings, plan), default=None)


def nearest_plan(world):
    """Of the plans that move the fewest meetings the first of the cheapest, or None if no plan can be."""
    meetings = world.meetings
    plans = possible_plans(world, meetings)
    # As with the best plan, of equals min takes the first.
    return min(plans, key=lambda plan: (moved_count(meetings, plan), plan_cost(world, meetings, plan)), default=None)


def can_all_be(world, numbers):
    return len(possible_plans(world, [world.meetings[number] for number in numbers])) > 0


def one_longer(groups, most):
    """Each group with each number below most that's higher than all of its own, in order if the groups are."""
    longer = []
    for group in groups:
        longer.extend([group + [number] for number in range(max(group, default=-1) + 1, most)])
    return longer


def in_the_way(world):
    """The numbers of the fewest meetings that can't all be, of as few the first; None if all can be."""
    groups = [[]]
    # Small groups come ahead of greater ones, so the first that can't be is one of the fewest.
    while len(groups) > 0:
        for group in groups:
            if not can_all_be(world, group):
                return group
        groups = one_longer(groups, len(world.meetings))
    return None
