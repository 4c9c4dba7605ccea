import random
import unittest

from slideboxes.cheapest import cheapest, least_round
from slideboxes.errors import BadCost, BadLog, BadPlan, BadRound, BadRule, BadTrace, NoRound
from slideboxes.judging import judged
from slideboxes.moves import by_plan, moved
from slideboxes.plain import traced
from tests.helper import SAMPLES, down_and_up, random_samples, random_trace, refusal

CALL, BACK, REST, OVER = ("call",), ("back",), ("rest",), ("over",)
PICK = [("pick", hand) for hand in range(4)]
# With a fault in all that is handed in behind the trace, to see that the trace is refused first.
ASKED = (
    (moved, (1, ())), (by_plan, (1, [0])), (cheapest, (1, -1)), (least_round, (-1,)), (judged, (1, [("no",)])),
    (moved, (2, (1, 1))), (by_plan, (2, [])), (cheapest, (2, 0)), (least_round, (0,)), (judged, (2, [])),
)


class Traces(unittest.TestCase):
    def bad(self, trace, at):
        before = list(trace)
        for asked, arguments in ASKED:
            self.assertEqual(refusal(BadTrace, asked, trace, *arguments).at, at, trace[-9:])
        self.assertEqual(trace, before)

    def good(self, trace):
        self.assertEqual(len(moved(trace, 2, (1, 1))), 3)
        self.assertEqual(len(cheapest(trace, 2, 1)), 2)
        self.assertEqual(least_round(trace, 20000)[0], 2)
        self.assertIn(judged(trace, 2, []), (0, None))

    def test_the_empty_trace(self):
        self.assertEqual(moved([], 2, (1, 1)), (0, 0, 0))
        self.assertEqual(by_plan([], 8, []), (0, 0, 0))
        self.assertEqual(cheapest([], 8, 100), (0, []))
        self.assertEqual(least_round([], 0), (2, 0))
        self.assertIsNone(judged([], 2, []))

    def test_a_trace_may_stop_anywhere(self):
        trace = [PICK[0], CALL, CALL, BACK, REST, PICK[3], OVER, PICK[0], BACK, OVER]
        for many in range(len(trace) + 1):
            self.good(trace[:many])

    def test_what_traced_tells(self):
        for program, hands, order in list(SAMPLES) + random_samples(31, 60):
            self.good(traced(program, hands, order))

    def test_random_traces(self):
        chance = random.Random(32)
        for turn in range(40):
            self.good(random_trace(chance, 80))

    def test_what_is_no_event(self):
        for event in (
            (), ("call", 0), ("back", 0), ("rest", 0), ("over", 0), ("pick",), ("pick", 0, 0), ("pick", 4),
            ("pick", -1), ("pick", 1000), ("pick", "0"), ("pick", (0,)), ("pick", True), ("Call",), ("",), ("calls",),
            (0,), (0, 0), ((),), ("spill", 0, 0), ("fetch", 0, 0), ("tell",), "call", "", 0, ("call", ()),
            (("call",),), ("no", 0),
        ):
            self.bad([event], 0)
            self.bad([PICK[0], event, event], 1)
            self.bad([PICK[0], CALL, REST, event], 3)

    def test_nothing_comes_ahead_of_a_pick(self):
        for event in (CALL, BACK, REST, OVER):
            self.bad([event], 0)
            self.bad([event, PICK[0]], 0)
            self.bad([PICK[0], CALL, CALL, REST, event], 4)
            self.bad([PICK[0], OVER, event], 2)
            self.bad([PICK[0], REST, PICK[1], OVER, event], 4)

    def test_none_is_picked_as_one_goes_on(self):
        for hand in range(4):
            self.bad([PICK[2], PICK[hand]], 1)
            self.bad([PICK[2], CALL, PICK[hand], REST], 2)
            self.bad([PICK[2], CALL, BACK, PICK[hand]], 3)
            self.good([PICK[2], CALL, REST, PICK[hand]])

    def test_none_is_picked_that_is_over(self):
        for hand in range(4):
            trace = [PICK[hand], REST, PICK[hand], OVER]
            self.bad(trace + [PICK[hand], REST], 4)
            self.good(trace + [PICK[3 - hand], REST])
            self.bad(trace + [PICK[3 - hand], REST, PICK[hand]], 6)
        self.good([event for pick in PICK for event in (pick, OVER)])

    def test_back_is_of_a_call_within_another_one(self):
        self.bad([PICK[0], BACK], 1)
        self.bad([PICK[0], CALL, BACK, BACK], 3)
        # Calls of another hand do not help.
        self.bad([PICK[0], CALL, REST, PICK[1], BACK], 4)
        self.good([PICK[0], CALL, REST, PICK[1], REST, PICK[0], BACK])
        self.bad([PICK[0], CALL, REST, PICK[1], REST, PICK[0], BACK, BACK], 7)

    def test_over_is_of_a_first_call(self):
        self.good([PICK[0], OVER])
        self.bad([PICK[0], CALL, OVER], 2)
        self.bad([PICK[0], CALL, CALL, BACK, OVER], 4)
        self.bad([PICK[0], CALL, REST, PICK[1], OVER, PICK[0], OVER], 6)
        self.good([PICK[0], CALL, REST, PICK[1], OVER, PICK[0], BACK, OVER])

    def test_within_sixty_others_and_one_more(self):
        self.good(down_and_up(60))
        self.bad(down_and_up(61), 61)
        self.bad(down_and_up(62), 61)
        self.good([PICK[0]] + [CALL] * 60 + [BACK, CALL] * 5)
        self.bad([PICK[0]] + [CALL] * 60 + [BACK, CALL] * 5 + [CALL], 71)
        # Hands are not within each other.
        both = [PICK[0]] + [CALL] * 60 + [REST, PICK[1]] + [CALL] * 60
        self.good(both + [REST, PICK[0], BACK, CALL])
        self.bad(both + [REST, PICK[0], CALL], 125)

    def test_5000_events_and_one_more(self):
        trace = [PICK[0]] + [CALL, BACK] * 2499 + [REST]
        self.assertEqual(len(trace), 5000)
        self.good(trace)
        self.assertEqual(moved(trace, 2, (1, 1)), (2499, 2500, 4999))
        self.bad(trace + [PICK[1]], 5000)
        self.bad(trace + [("no",)], 5000)
        self.bad(trace + [PICK[1], REST] * 500, 5000)
        self.bad(trace[:-1] + [OVER, PICK[0]], 5000)
        self.bad(trace[:-1] + [BACK, PICK[0], REST], 4999)

    def test_the_first_fault_is_told(self):
        self.bad([PICK[0], BACK, ("no",), CALL], 1)
        self.bad([PICK[0], CALL, ("no",), PICK[0]], 2)
        self.bad([PICK[0], CALL, PICK[0], ("no",)], 2)
        self.bad([("no",)] + down_and_up(61), 0)


class InTurn(unittest.TestCase):
    trace = [PICK[0], REST]

    def test_rounds(self):
        for asked, arguments, worse in (
            (moved, ((1, 1),), ((),)), (by_plan, ([1],), ([0],)), (cheapest, (0,), (-1,)),
            (judged, ([PICK[0], ("fetch", 0, 0), REST],), ([("no",)],)),
        ):
            for many in range(2, 9):
                asked(self.trace, many, *arguments)
            for many in (-2, -1, 0, 1, 9, 10, 100, True):
                refusal(BadRound, asked, self.trace, many, *arguments)
                refusal(BadRound, asked, self.trace, many, *worse)

    def test_behind_the_round(self):
        refusal(BadRule, moved, self.trace, 2, (1, 2))
        self.assertEqual(refusal(BadPlan, by_plan, self.trace, 2, [2]).at, 0)
        refusal(BadCost, cheapest, self.trace, 2, 101)
        self.assertEqual(refusal(BadLog, judged, self.trace, 2, [CALL, ("no",)]).at, 1)

    def test_no_round_is_behind_all_else(self):
        refusal(BadTrace, least_round, [CALL], 0)
        refusal(BadTrace, least_round, [CALL], 20001)
        refusal(BadCost, least_round, self.trace, -1)
        refusal(NoRound, least_round, self.trace, 0)
