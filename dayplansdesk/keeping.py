"""What is kept of the meetings: an hour of each, or none."""

from dayplansdesk.world import NOTHING_KEPT


def keep_plan(meetings, plan):
    for meeting, hour in zip(meetings, plan):
        meeting.kept_hour = hour


def is_moved(meeting, hour):
    return meeting.kept_hour != NOTHING_KEPT and meeting.kept_hour != hour


def moved_count(meetings, plan):
    return len([hour for meeting, hour in zip(meetings, plan) if is_moved(meeting, hour)])


def kept_cost(world, person):
    """What the kept hours of their meetings cost the person; an hour at which they can't is told as CANNOT."""
    theirs = [meeting for meeting in world.meetings if person in meeting.people]
    hours = [meeting.kept_hour for meeting in theirs if meeting.kept_hour != NOTHING_KEPT]
    return sum([world.prices[person][hour] for hour in hours])
