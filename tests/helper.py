"""What the tests share: calls as lists, and their answers taken apart."""

from dayplansdesk.plans import answers

BEST = [6]
KEEP = [7]
NEAREST = [8]
MOVE = [9]
WAY = [10]
COUNT = [11]
KEPT = [12]
SHARE = [13]


def begin(people, hours):
    return [0, people, hours]


def cost(person, hour, price):
    return [1, person, hour, price]


def rooms(hour, many):
    return [2, hour, many]


def meeting(*people):
    return [3, len(people), *people]


def drop(number):
    return [4, number]


def pin(number, hour):
    return [5, number, hour]


def prices(person, *of_hours):
    """A cost call for each hour."""
    return [cost(person, hour, price) for hour, price in enumerate(of_hours)]


def line(*calls):
    return [number for call in calls for number in call]


def apart(told):
    """The answers of each call, without the counts ahead of them."""
    each = []
    place = 0
    while place < len(told):
        end = place + 1 + told[place]
        if end > len(told):
            raise ValueError(f"answers end too early: {told}")
        each.append(told[place + 1:end])
        place = end
    return each


def ask(*calls):
    """The answers of each of the calls, as a list of lists."""
    each = apart(answers(line(*calls)))
    if len(each) != len(calls):
        raise ValueError(f"{len(calls)} calls, {len(each)} answers")
    return each


def last(*calls):
    """What the last of the calls answers."""
    return ask(*calls)[-1]
