"""The cheapest plan of what is spilled and fetched, and the least round."""

from slideboxes.common import MOST_STRETCHES, below, check_round
from slideboxes.errors import BadCost, NoRound
from slideboxes.moves import in_behind, most_at, moves_at
from slideboxes.traces import check_trace, steps_of

MOST_COST = 100
MOST_COUNT = 20000


class Choice:
    """One way of doing a step: how many calls its trap moves, what it costs, and how many are in behind it."""

    def __init__(self, step, now_in, count, cost):
        self.moving = count
        self.price = cost + sum(moves_at(step, now_in, count))
        self.now_in = in_behind(step, now_in, count)


def choices_at(step, now_in, many, cost):
    """All ways of doing a step, the fewest moved first."""
    most = most_at(step, now_in, many)
    if most == 0:
        return [Choice(step, now_in, 0, 0)]
    return [Choice(step, now_in, count, cost) for count in range(1, most + 1)]


def with_rest(choice, behind):
    """What a choice and the cheapest of all that comes behind it cost."""
    return choice.price + behind[choice.now_in]


def least_at(step, many, cost, behind):
    """The least cost from a step on, by how many calls are in ahead of it; behind is the same from the next one on."""
    # Only a switch may find none in: a hand that goes on has its innermost call in.
    fewest = 0 if step[0] == "switch" else 1
    least = {}
    for now_in in range(fewest, many):
        least[now_in] = min([with_rest(choice, behind) for choice in choices_at(step, now_in, many, cost)])
    return least


def least_costs(steps, many, cost):
    """For each step, and behind the last one, the least cost from there on."""
    costs = [{now_in: 0 for now_in in range(many)}]
    for step in reversed(steps):
        costs.append(least_at(step, many, cost, costs[-1]))
    costs.reverse()
    return costs


def first_plan(steps, many, cost, costs):
    """Of the plans of the least cost the first as lists ascend: at each trap the fewest that still lead there."""
    plan = []
    now_in = 0
    for at, step in enumerate(steps):
        best = [
            choice for choice in choices_at(step, now_in, many, cost)
            if with_rest(choice, costs[at + 1]) == costs[at][now_in]
        ]
        first = best[0]
        if first.moving > 0:
            plan.append(first.moving)
        now_in = first.now_in
    return plan


def check_cost(cost, most):
    if not below(cost, most + 1):
        raise BadCost(f"no number from 0 to {most}")


def cheapest(trace, many, cost):
    """The least cost of all plans, a trap costing so much and each move 1, and the first plan of that cost."""
    check_trace(trace)
    check_round(many)
    check_cost(cost, MOST_COST)
    steps = steps_of(trace)
    costs = least_costs(steps, many, cost)
    return costs[0][0], first_plan(steps, many, cost, costs)


def least_round(trace, most):
    """The least round in which some plan moves no more calls than that, and the fewest that are moved in it."""
    check_trace(trace)
    check_cost(most, MOST_COUNT)
    steps = steps_of(trace)
    for many in range(2, MOST_STRETCHES + 1):
        fewest = least_costs(steps, many, 0)[0][0]
        if fewest <= most:
            return many, fewest
    raise NoRound("more calls are moved in each round")
