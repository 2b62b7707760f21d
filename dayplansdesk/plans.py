"""A line of calls, read number by number and answered in order."""

from dayplansdesk.desk import Desk

BEGIN = 0
COST = 1
ROOMS = 2
MEETING = 3
DROP = 4
PIN = 5
BEST = 6
KEEP = 7
NEAREST = 8
MOVE = 9
WAY = 10
COUNT = 11
KEPT = 12

# By a call's number, from begin to share, how many whole numbers follow it; of meeting its row's length alone.
NUMBER_COUNTS = (2, 3, 2, 1, 1, 2, 0, 0, 0, 0, 0, 0, 0, 0)


def call_end(calls, start):
    """The place behind the call that begins at start."""
    code = calls[start]
    end = start + 1 + NUMBER_COUNTS[code]
    if code == MEETING:
        end += calls[start + 1]
    return end


def answer_of(desk, call):
    code = call[0]
    if code == BEGIN:
        return desk.begin(call[1], call[2])
    if code == COST:
        return desk.cost(call[1], call[2], call[3])
    if code == ROOMS:
        return desk.rooms(call[1], call[2])
    if code == MEETING:
        return desk.meeting(call[2:])
    if code == DROP:
        return desk.drop(call[1])
    if code == PIN:
        return desk.pin(call[1], call[2])
    if code == BEST:
        return desk.best()
    if code == KEEP:
        return desk.keep()
    if code == NEAREST:
        return desk.nearest()
    if code == MOVE:
        return desk.move()
    if code == WAY:
        return desk.way()
    if code == COUNT:
        return desk.count()
    if code == KEPT:
        return desk.kept()
    return desk.share()


def answers(calls):
    """For each call, in order: how many numbers it answers, then these numbers."""
    desk = Desk()
    told = []
    start = 0
    while start < len(calls):
        end = call_end(calls, start)
        answer = answer_of(desk, calls[start:end])
        told.append(len(answer))
        told.extend(answer)
        start = end
    return told
