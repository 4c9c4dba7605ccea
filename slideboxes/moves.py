"""What is spilled and fetched, by the calls alone: by a rule and by a plan."""

from slideboxes.common import check_round, check_rule, whole
from slideboxes.errors import BadPlan
from slideboxes.traces import CHANGES, check_trace, steps_of


def most_at(step, now_in, many):
    """The most calls that can be moved at the trap that a step is, 0 if it is none."""
    word, depth = step
    if word == "call":
        return now_in if now_in == many - 1 else 0
    if word == "switch" or (word == "back" and now_in == 1):
        # All calls of the hand are laid aside then.
        return min(depth, many - 1)
    return 0


def moves_at(step, now_in, count):
    """How many calls are spilled and how many fetched at a step, if its trap moves so many."""
    if step[0] == "call":
        return count, 0
    if step[0] == "switch":
        return now_in, count
    return 0, count


def in_behind(step, now_in, count):
    """How many calls are in behind a step, if its trap moves so many."""
    spilled, fetched = moves_at(step, now_in, count)
    return now_in - spilled + fetched + CHANGES.get(step[0], 0)


class Tally:
    """How many calls are in by now, and the counts of what was moved so far."""

    def __init__(self, many):
        self.many = many
        self.now_in = 0
        self.spilled = 0
        self.fetched = 0
        self.traps = 0

    def most(self, step):
        return most_at(step, self.now_in, self.many)

    def go_by(self, step, count):
        """Do a step; its trap moves so many calls, 0 if it is none."""
        spilled, fetched = moves_at(step, self.now_in, count)
        self.now_in = in_behind(step, self.now_in, count)
        self.spilled += spilled
        self.fetched += fetched
        if count > 0:
            self.traps += 1

    def moves(self):
        return self.spilled, self.fetched, self.traps


def moved(trace, many, rule):
    """How many calls are spilled and fetched by a rule, and at how many traps."""
    check_trace(trace)
    check_round(many)
    check_rule(rule, many)
    spill, fetch = rule
    tally = Tally(many)
    for step in steps_of(trace):
        wanted = spill if step[0] == "call" else fetch
        tally.go_by(step, min(wanted, tally.most(step)))
    return tally.moves()


def check_planned(plan, at, most):
    if at == len(plan) or not whole(plan[at]) or not 1 <= plan[at] <= most:
        raise BadPlan(at)


def by_plan(trace, many, plan):
    """How many calls are spilled and fetched by a plan, and at how many traps."""
    check_trace(trace)
    check_round(many)
    tally = Tally(many)
    for step in steps_of(trace):
        most = tally.most(step)
        count = 0
        if most > 0:
            check_planned(plan, tally.traps, most)
            count = plan[tally.traps]
        tally.go_by(step, count)
    if tally.traps < len(plan):
        raise BadPlan(tally.traps)
    return tally.moves()
