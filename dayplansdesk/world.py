"""What there is: people, hours, rooms and meetings."""

CANNOT = 100
NOTHING_KEPT = -1


class Meeting:
    """A meeting of some people; pinned to no hour is told as the number of hours."""

    def __init__(self, people, pinned):
        self.people = people
        self.pinned = pinned
        self.kept_hour = NOTHING_KEPT


class World:
    """At first all can at all hours at no cost, each hour has one room, and there are no meetings."""

    def __init__(self, people_count, hour_count):
        self.people_count = people_count
        self.hour_count = hour_count
        self.prices = [[0] * hour_count for person in range(people_count)]
        self.room_counts = [1] * hour_count
        self.meetings = []
