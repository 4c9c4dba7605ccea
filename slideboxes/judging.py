"""Logs, judged by a trace: whether the moves in them are enough and can be."""

from slideboxes.common import MOST_HANDS, MOST_WITHIN, below, check_round
from slideboxes.errors import BadLog
from slideboxes.traces import CHANGES, Trail, check_trace, is_event

MOST_LOG_ROWS = 20000


def is_move(row):
    if not isinstance(row, tuple) or len(row) != 3 or row[0] not in ("spill", "fetch"):
        return False
    return below(row[1], MOST_HANDS) and below(row[2], MOST_WITHIN + 1)


def check_log(log):
    for at, row in enumerate(log):
        if at == MOST_LOG_ROWS or not (is_event(row) or is_move(row)):
            raise BadLog(at)


class Judge:
    """How far a log has come in a trace, and how many calls are in.

    Those that are in are always the innermost ones of the hand picked last: only the outermost of them is spilled,
    and only the innermost that is laid aside fetched.
    """

    def __init__(self, trace, many):
        self.trace = trace
        self.place = 0
        self.trail = Trail()
        self.most_in = many - 1
        self.now_in = 0
        self.was_in = False

    def can_be(self, row):
        if is_move(row):
            return self.can_move(row)
        return self.misses_events() and row == self.trace[self.place] and self.is_ready(row)

    def misses_events(self):
        return self.place < len(self.trace)

    def can_move(self, move):
        word, hand, within = move
        if hand != self.trail.hand:
            return False
        aside = self.trail.depth() - self.now_in
        if word == "spill":
            return self.now_in > 0 and within == aside
        return self.now_in < self.most_in and within == aside - 1

    def is_ready(self, event):
        """Whether those calls are in, or out, that the event wants so."""
        if event[0] == "pick":
            return event[1] == self.trail.hand or self.now_in == 0
        if event[0] == "call":
            return self.was_in and self.now_in < self.most_in
        return self.now_in > 0

    def go_by(self, row):
        """Go on by a row that can be."""
        word = row[0]
        if word == "spill":
            self.now_in -= 1
        elif word == "fetch":
            self.now_in += 1
            self.was_in = True
        else:
            self.trail.follow(row)
            self.place += 1
            self.now_in += CHANGES.get(word, 0)
            # Kept for a call: its caller may be spilled ahead of it, as long as it was in since the event before.
            self.was_in = self.now_in > 0


def judged(trace, many, log):
    """The number of the first row that can't be, or of rows if events are missing, or None if all is right."""
    check_trace(trace)
    check_round(many)
    check_log(log)
    judge = Judge(trace, many)
    for number, row in enumerate(log):
        if not judge.can_be(row):
            return number
        judge.go_by(row)
    if judge.misses_events():
        return len(log)
    return None
