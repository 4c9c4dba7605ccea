import random
import unittest

from slideboxes.errors import BadPlan, BadRule
from slideboxes.machine import Machine
from slideboxes.making import made
from slideboxes.moves import by_plan, moved
from slideboxes.plain import traced
from tests.helper import (
    SAMPLES, all_plans, by_rule, down_and_up, events_of, expected_log, moves_in, random_samples, random_trace, refusal,
    rounds_and_rules,
)

CALL, BACK, REST, OVER = ("call",), ("back",), ("rest",), ("over",)
PICK = [("pick", hand) for hand in range(4)]
# Hand 0 rests within three others, hand 1 at once, and both go on by turns.
SWITCHES = [
    PICK[0], CALL, CALL, CALL, REST, PICK[1], REST, PICK[1], CALL, REST, PICK[0], BACK, BACK, REST,
    PICK[1], BACK, OVER, PICK[0], BACK, OVER,
]


def machine_behind(program, hands, order, many, rule):
    machine = Machine(made(program), hands, many, rule)
    for hand in order:
        machine.pick(hand)
    return machine


class Moved(unittest.TestCase):
    def test_the_first_pick_fetches_one(self):
        for many, rule in rounds_and_rules():
            self.assertEqual(moved([PICK[3]], many, rule), (0, 1, 1))
            self.assertEqual(moved([PICK[3], REST, PICK[3], OVER], many, rule), (0, 1, 1))

    def test_down_and_up(self):
        for depth, many, rule, counts in (
            (0, 2, (1, 1), (0, 1, 1)),
            (1, 2, (1, 1), (1, 2, 3)),
            (60, 2, (1, 1), (60, 61, 121)),
            (5, 4, (2, 1), (4, 5, 7)),
            (5, 4, (1, 3), (3, 4, 5)),
            (3, 4, (2, 3), (2, 3, 3)),
            (2, 3, (2, 1), (2, 3, 4)),
            (6, 8, (7, 7), (0, 1, 1)),
            (7, 8, (7, 7), (7, 8, 3)),
            (60, 8, (1, 1), (54, 55, 109)),
            (60, 8, (7, 7), (56, 57, 17)),
        ):
            self.assertEqual(moved(down_and_up(depth), many, rule), counts, (depth, many, rule))

    def test_switches(self):
        # Ahead of the switches 3 (one was spilled at a call), 2, 1 and none are in.
        self.assertEqual(moved(SWITCHES, 4, (1, 1)), (7, 9, 10))
        self.assertEqual(moved(SWITCHES, 4, (1, 3)), (7, 9, 6))
        # 4, 2, 2 and none; at the switches 1, 4, 2 and 2 are fetched.
        self.assertEqual(moved(SWITCHES, 5, (4, 4)), (8, 10, 5))
        self.assertEqual(moved(SWITCHES, 2, (1, 1)), (7, 9, 13))

    def test_a_pick_of_the_same_hand_moves_nothing(self):
        rests = [PICK[0], REST] * 20
        self.assertEqual(moved(rests, 2, (1, 1)), (0, 1, 1))
        self.assertEqual(moved(rests + [PICK[1], REST] + rests, 2, (1, 1)), (2, 3, 3))

    def test_none_is_in_behind_one_that_is_over(self):
        trace = [event for pick in PICK for event in (pick, OVER)]
        self.assertEqual(moved(trace, 3, (2, 2)), (0, 4, 4))

    def test_what_a_machine_counts(self):
        for program, hands, order in list(SAMPLES) + random_samples(41, 12):
            trace = traced(program, hands, order)
            for many, rule in rounds_and_rules():
                machine = machine_behind(program, hands, order, many, rule)
                self.assertEqual(moved(trace, many, rule), machine.counts())
                self.assertEqual(moved(events_of(machine.log()), many, rule), machine.counts())

    def test_what_a_machine_counts_of_many(self):
        samples = random_samples(42, 420)
        for at, (many, rule) in enumerate(rounds_and_rules() * 3):
            program, hands, order = samples[at]
            counts = machine_behind(program, hands, order, many, rule).counts()
            self.assertEqual(moved(traced(program, hands, order), many, rule), counts)

    def test_behind_each_pick(self):
        program, hands, order = SAMPLES[3]
        machine = Machine(made(program), hands, 3, (1, 2))
        for at, hand in enumerate(order):
            machine.pick(hand)
            self.assertEqual(moved(traced(program, hands, order[:at + 1]), 3, (1, 2)), machine.counts())

    def test_random_traces(self):
        chance = random.Random(43)
        for many, rule in rounds_and_rules():
            trace = random_trace(chance, 150)
            log, traps = expected_log(trace, many, by_rule(rule))
            self.assertEqual(moved(trace, many, rule), (*moves_in(log), traps))

    def test_rules(self):
        for many in range(2, 9):
            for rule in ((1, 1), (many - 1, 1), (1, many - 1), (many - 1, many - 1)):
                self.assertEqual(moved([], many, rule), (0, 0, 0))
            for rule in (
                (0, 1), (1, 0), (many, 1), (1, many), (-1, 1), (1, -1), (0, 0), (), (1,), (1, 1, 1), (many, many),
                (1, 1, 1, 1), (True, 1),
            ):
                refusal(BadRule, moved, SWITCHES, many, rule)


class ByPlan(unittest.TestCase):
    def bad(self, trace, many, plan, at):
        before = list(plan)
        self.assertEqual(refusal(BadPlan, by_plan, trace, many, plan).at, at, plan)
        self.assertEqual(plan, before)

    def test_down_and_up(self):
        for depth, many, plan, counts in (
            (0, 2, [1], (0, 1, 1)),
            (1, 2, [1, 1, 1], (1, 2, 3)),
            (2, 3, [1, 1, 1], (1, 2, 3)),
            (2, 3, [1, 2, 1, 1], (2, 3, 4)),
            (2, 3, [1, 2, 2], (2, 3, 3)),
            (7, 8, [1, 3, 3], (3, 4, 3)),
            (60, 2, [1] * 121, (60, 61, 121)),
        ):
            self.assertEqual(by_plan(down_and_up(depth), many, plan), counts)

    def test_switches(self):
        # At the switches 1, 2, 1 and 2 are fetched, and behind calls that go back 2 and 1.
        self.assertEqual(by_plan(SWITCHES, 4, [1, 1, 1, 2, 2, 1, 1, 2]), (8, 10, 8))

    def test_the_most_at_a_call(self):
        trace = down_and_up(2)[:3]
        self.assertEqual(by_plan(trace, 3, [1, 2]), (2, 1, 2))
        for count in (3, 4, 0, -1, True):
            self.bad(trace, 3, [1, count], 1)
        trace = down_and_up(7)[:8]
        for count in range(1, 8):
            self.assertEqual(by_plan(trace, 8, [1, count]), (count, 1, 2))
        for count in (0, 8, 9, -7):
            self.bad(trace, 8, [1, count], 1)

    def test_the_most_behind_a_back(self):
        # Of 21 calls 18 are laid aside, 3 at each of 6 traps; behind the third back none of the others is left.
        trace = [PICK[0]] + [CALL] * 20 + [BACK] * 3
        first = [1] + [3] * 6
        for count in (1, 2, 3):
            self.assertEqual(by_plan(trace, 4, first + [count])[:2], (18, 1 + count))
        for count in (0, 4, 5, -1):
            self.bad(trace, 4, first + [count], 7)
        # Only two are laid aside.
        trace = [PICK[0], CALL, CALL, CALL, BACK, BACK]
        for count in (1, 2):
            self.assertEqual(by_plan(trace, 4, [1, 2, count]), (2, 1 + count, 3))
        for count in (0, 3, 4):
            self.bad(trace, 4, [1, 2, count], 2)

    def test_the_most_at_a_switch(self):
        trace = [PICK[0], CALL, CALL, REST, PICK[1], REST, PICK[0]]
        for many, most in ((2, 1), (3, 2), (4, 3), (8, 3)):
            plan = [1] * moved(trace, many, (1, 1))[2]
            for count in range(1, most + 1):
                self.assertEqual(by_plan(trace, many, plan[:-1] + [count])[2], len(plan))
            for count in (0, most + 1, most + 2, -1):
                self.bad(trace, many, plan[:-1] + [count], len(plan) - 1)

    def test_the_first_pick_fetches_one_only(self):
        for many in range(2, 9):
            for count in (0, 2, 8):
                self.bad([PICK[2], CALL], many, [count, 9], 0)

    def test_missing_and_too_many(self):
        self.bad([PICK[0]], 5, [], 0)
        self.bad([PICK[0]], 5, [1, 1], 1)
        self.bad([PICK[0]], 5, [1, 0, 9], 1)
        self.bad([], 5, [1], 0)
        self.bad([], 5, [0], 0)
        plan = [1] * 121
        for many in range(121):
            self.bad(down_and_up(60), 2, plan[:many], many)
        for more in (1, 2, 100):
            self.bad(down_and_up(60), 2, plan + [1] * more, 121)

    def test_the_first_fault_is_told(self):
        self.bad(down_and_up(3), 2, [1, 2, 2], 1)
        self.bad(down_and_up(3), 2, [1, 1, 0], 2)
        self.bad(down_and_up(3), 2, [1, 1, 2] + [1] * 10, 2)
        self.bad(down_and_up(3), 2, [2], 0)

    def test_all_plans_of_small_traces(self):
        chance = random.Random(44)
        for turn in range(40):
            trace = random_trace(chance, chance.randrange(14), 2)
            for many in (2, 3, 4, 5):
                for plan, spilled, fetched in all_plans(trace, many)[:50]:
                    self.assertEqual(by_plan(trace, many, plan), (spilled, fetched, len(plan)))
                    self.bad(trace, many, plan + [1], len(plan))
                    if plan:
                        at = chance.randrange(len(plan))
                        self.bad(trace, many, plan[:at], at)
                        self.bad(trace, many, plan[:at] + [chance.choice((0, many, -1))] + plan[at + 1:], at)

    def test_a_rule_is_a_plan(self):
        chance = random.Random(45)
        for many, rule in rounds_and_rules():
            trace = random_trace(chance, 200)
            plan = []

            def choose(word, most):
                plan.append(by_rule(rule)(word, most))
                return plan[-1]

            expected_log(trace, many, choose)
            self.assertEqual(by_plan(trace, many, plan), moved(trace, many, rule))
