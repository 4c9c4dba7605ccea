"""Traces: the events of calls, how they can come, and the steps at which calls may be moved."""

from slideboxes.common import MOST_HANDS, MOST_WITHIN, below
from slideboxes.errors import BadTrace

MOST_EVENTS = 5000
PLAIN_EVENTS = (("call",), ("back",), ("rest",), ("over",))
# By how many the calls of the hand that goes on change at an event; at the others they stay.
CHANGES = {"call": 1, "back": -1, "over": -1}


class Trail:
    """How far events have come: the hand picked last, if it goes on, and how many calls each hand is in."""

    def __init__(self):
        self.hand = None
        self.goes = False
        self.depths = [1] * MOST_HANDS

    def depth(self):
        """How many calls the hand picked last is in: 0 if it is over."""
        return self.depths[self.hand]

    def can_come(self, event):
        word = event[0]
        if word == "pick":
            return not self.goes and self.depths[event[1]] > 0
        if not self.goes:
            return False
        if word == "call":
            return self.depth() <= MOST_WITHIN
        if word == "back":
            return self.depth() > 1
        return word == "rest" or self.depth() == 1

    def follow(self, event):
        """Go on by an event that can come."""
        word = event[0]
        if word == "pick":
            self.hand = event[1]
        self.goes = word not in ("rest", "over")
        self.depths[self.hand] += CHANGES.get(word, 0)


def is_event(row):
    if row in PLAIN_EVENTS:
        return True
    return isinstance(row, tuple) and len(row) == 2 and row[0] == "pick" and below(row[1], MOST_HANDS)


def check_trace(trace):
    trail = Trail()
    for at, event in enumerate(trace):
        if at == MOST_EVENTS or not is_event(event) or not trail.can_come(event):
            raise BadTrace(at)
        trail.follow(event)


def steps_of(trace):
    """The events of a trace at which calls may be moved, each with how many calls its hand is in behind it.

    They are (word, depth), the word being switch for a pick of another hand than ran last, or of the first one.
    """
    trail = Trail()
    steps = []
    for event in trace:
        last = trail.hand
        trail.follow(event)
        if event[0] in CHANGES:
            steps.append((event[0], trail.depth()))
        elif trail.hand != last:
            steps.append(("switch", trail.depth()))
    return steps
