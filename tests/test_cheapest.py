import random
import unittest

from slideboxes.cheapest import cheapest, least_round
from slideboxes.errors import BadCost, NoRound
from slideboxes.moves import by_plan, moved
from slideboxes.plain import traced
from tests.helper import (
    SAMPLES, all_plans, down_and_up, random_samples, random_trace, refusal, rounds_and_rules,
)

CALL, BACK, REST, OVER = ("call",), ("back",), ("rest",), ("over",)
PICK = [("pick", hand) for hand in range(4)]


def least_forwards(trace, many, cost):
    """The same by going forwards: by how many calls are in, the least (cost, plan) that leads there."""
    depths = [1] * 4
    hand = None
    least = {0: (0, [])}
    for event in trace:
        ways = {}

        def reach(now_in, way):
            ways[now_in] = min(ways.get(now_in, way), way)

        change = {"call": 1, "back": -1, "over": -1}.get(event[0], 0)
        switch = event[0] == "pick" and event[1] != hand
        if event[0] == "pick":
            hand = event[1]
        depths[hand] += change
        for now_in, (so_far, plan) in least.items():
            if event[0] == "call" and now_in == many - 1:
                for count in range(1, now_in + 1):
                    reach(now_in - count + 1, (so_far + cost + count, plan + [count]))
            elif switch or (event[0] == "back" and now_in == 1):
                spilled = now_in if switch else 0
                for count in range(1, min(many - 1, depths[hand]) + 1):
                    reach(count, (so_far + cost + spilled + count, plan + [count]))
            else:
                reach(now_in + change, (so_far, plan))
        least = ways
    return min(least.values())


def by_trying(trace, many, cost):
    """The least cost and the first plan of it, of all plans there are."""
    return min((spilled + fetched + cost * len(plan), plan) for plan, spilled, fetched in all_plans(trace, many))


class Cheapest(unittest.TestCase):
    def test_one_call(self):
        for many in range(2, 9):
            self.assertEqual(cheapest([PICK[0]], many, 0), (1, [1]))
            self.assertEqual(cheapest([PICK[0], REST, PICK[0], OVER], many, 100), (101, [1]))

    def test_down_and_up(self):
        # Of 7 calls 2 may be in: the other five are spilled and fetched, by dear traps two at once.
        for depth, many, cost, told in (
            (1, 2, 0, (3, [1, 1, 1])),
            (1, 2, 7, (24, [1, 1, 1])),
            (2, 3, 5, (18, [1, 1, 1])),
            (6, 3, 0, (11, [1] * 11)),
            (6, 3, 1, (18, [1, 1, 2, 2, 1, 2, 2])),
            (3, 4, 100, (303, [1, 1, 1])),
            (5, 4, 0, (7, [1] * 7)),
            (60, 8, 0, (109, [1] * 109)),
            (60, 2, 100, (12221, [1] * 121)),
        ):
            self.assertEqual(cheapest(down_and_up(depth), many, cost), told, (depth, many, cost))

    def test_a_dear_trap_moves_more_calls(self):
        # One is spilled for each of the last two calls, or both are ahead of the first of them.
        trace = [PICK[0], CALL, CALL, CALL, CALL, REST]
        self.assertEqual(cheapest(trace, 4, 0), (3, [1, 1, 1]))
        self.assertEqual(cheapest(trace, 4, 1), (5, [1, 2]))
        self.assertEqual(cheapest(trace, 4, 100), (203, [1, 2]))

    def test_of_several_plans_the_first(self):
        # At a cost of 0 the calls are spilled one by one or together, all the same.
        trace = [PICK[0], CALL, CALL, CALL, CALL, CALL, REST, PICK[1], OVER]
        plans = [plan for plan, spilled, fetched in all_plans(trace, 4) if spilled + fetched == 8]
        self.assertGreater(len(plans), 5)
        self.assertEqual(cheapest(trace, 4, 0), (8, min(plans)))
        self.assertEqual(cheapest(trace, 4, 0)[1], [1, 1, 1, 1, 1])

    def test_against_all_plans_of_small_traces(self):
        chance = random.Random(51)
        for turn in range(120):
            trace = random_trace(chance, chance.randrange(15), chance.randint(1, 3))
            for many in (2, 3, 4):
                for cost in (0, 1, chance.randint(2, 100)):
                    self.assertEqual(cheapest(trace, many, cost), by_trying(trace, many, cost), (trace, many, cost))

    def test_against_all_plans_of_deep_ones(self):
        chance = random.Random(52)
        for turn in range(12):
            depth = chance.randint(5, 8)
            trace = [PICK[0]] + [CALL] * depth + [REST, PICK[1], REST, PICK[0]] + [BACK] * chance.randint(1, depth)
            for many in (4, 5, 6, 7, 8):
                cost = chance.choice((0, 1, 2, 3, 100))
                self.assertEqual(cheapest(trace, many, cost), by_trying(trace, many, cost), (trace, many, cost))

    def test_against_going_forwards(self):
        chance = random.Random(53)
        for turn in range(60):
            trace = random_trace(chance, 200, chance.randint(1, 4))
            many = chance.randint(2, 8)
            cost = chance.choice((0, 1, 2, 5, 100))
            self.assertEqual(cheapest(trace, many, cost), least_forwards(trace, many, cost))

    def test_the_plan_costs_what_is_told(self):
        for program, hands, order in list(SAMPLES) + random_samples(54, 60):
            trace = traced(program, hands, order)
            for many in range(2, 9):
                for cost in (0, 3, 100):
                    least, plan = cheapest(trace, many, cost)
                    spilled, fetched, traps = by_plan(trace, many, plan)
                    self.assertEqual((least, traps), (spilled + fetched + cost * traps, len(plan)))

    def test_no_rule_is_cheaper(self):
        chance = random.Random(55)
        for many, rule in rounds_and_rules():
            trace = random_trace(chance, 120)
            spilled, fetched, traps = moved(trace, many, rule)
            self.assertLessEqual(cheapest(trace, many, 4)[0], spilled + fetched + 4 * traps)

    def test_never_more_in_a_greater_round(self):
        chance = random.Random(56)
        for turn in range(150):
            trace = random_trace(chance, 150, chance.randint(1, 4))
            cost = chance.choice((0, 1, 10, 100))
            costs = [cheapest(trace, many, cost)[0] for many in range(2, 9)]
            self.assertEqual(costs, sorted(costs, reverse=True))

    def test_costs(self):
        for cost in (0, 1, 99, 100):
            self.assertEqual(cheapest([PICK[0]], 2, cost), (cost + 1, [1]))
        for cost in (-1, -100, 101, 102, 1000, True):
            refusal(BadCost, cheapest, [PICK[0]], 2, cost)
            refusal(BadCost, cheapest, [], 2, cost)

    def test_5000_events(self):
        trace = [PICK[0]] + [CALL, BACK] * 2499 + [REST]
        self.assertEqual(cheapest(trace, 2, 100), (4999 * 101, [1] * 4999))
        self.assertEqual(cheapest(trace, 3, 100), (101, [1]))
        trace = ([PICK[0], REST, PICK[1], REST] * 1250)
        self.assertEqual(cheapest(trace, 8, 0), (4999, [1] * 2500))

    def test_kinds_of_what_is_told(self):
        told = cheapest(down_and_up(5), 3, 2)
        self.assertEqual((type(told), [type(part) for part in told]), (tuple, [int, list]))


class LeastRound(unittest.TestCase):
    def test_down_and_up(self):
        # Five deep: six calls, of which one less than the round fit in; each other one is spilled and fetched.
        for most, told in (
            (20000, (2, 11)), (11, (2, 11)), (10, (3, 9)), (9, (3, 9)), (8, (4, 7)), (7, (4, 7)), (6, (5, 5)),
            (5, (5, 5)), (4, (6, 3)), (3, (6, 3)), (2, (7, 1)), (1, (7, 1)),
        ):
            self.assertEqual(least_round(down_and_up(5), most), told)
        refusal(NoRound, least_round, down_and_up(5), 0)

    def test_no_round(self):
        # Sixty deep, in a round of 8.
        self.assertEqual(least_round(down_and_up(60), 109), (8, 109))
        refusal(NoRound, least_round, down_and_up(60), 108)
        refusal(NoRound, least_round, [PICK[0]], 0)
        self.assertEqual(least_round([], 0), (2, 0))

    def test_against_all_plans_of_small_traces(self):
        chance = random.Random(57)
        for turn in range(40):
            trace = random_trace(chance, chance.randrange(13), 2)
            fewest = {many: by_trying(trace, many, 0)[0] for many in range(2, 6)}
            for most in range(fewest[5], fewest[2] + 3):
                many = min(many for many in fewest if fewest[many] <= most)
                self.assertEqual(least_round(trace, most), (many, fewest[many]))

    def test_what_cheapest_tells_at_no_cost(self):
        chance = random.Random(58)
        for turn in range(60):
            trace = random_trace(chance, 150)
            fewest = {many: cheapest(trace, many, 0)[0] for many in range(2, 9)}
            for most in (fewest[8], fewest[5] - 1, fewest[4], fewest[2], chance.randrange(200)):
                rounds = [many for many in fewest if fewest[many] <= most]
                if rounds:
                    self.assertEqual(least_round(trace, most), (rounds[0], fewest[rounds[0]]))
                else:
                    refusal(NoRound, least_round, trace, most)

    def test_counts(self):
        for most in (0, 20000):
            self.assertEqual(least_round([], most), (2, 0))
        for most in (-1, 20001, 20002, 100000, True):
            refusal(BadCost, least_round, [], most)
            refusal(BadCost, least_round, [PICK[0]], most)

    def test_5000_events(self):
        self.assertEqual(least_round([PICK[0], REST, PICK[1], REST] * 1250, 20000), (2, 4999))
        refusal(NoRound, least_round, [PICK[0], REST, PICK[1], REST] * 1250, 4998)

    def test_kinds_of_what_is_told(self):
        told = least_round(down_and_up(5), 5)
        self.assertEqual((type(told), [type(part) for part in told]), (tuple, [int, int]))
