"""What the document promises over the whole program."""

import copy
import inspect
import random
import unittest

from slideboxes import errors
from slideboxes.cheapest import cheapest, least_round
from slideboxes.judging import judged
from slideboxes.machine import Machine, slid
from slideboxes.making import made, unmade
from slideboxes.moves import by_plan, moved
from slideboxes.notes import read, written
from slideboxes.plain import run, traced
from tests.helper import SAMPLES, STAIRS, by_rule, expected_log, random_trace, refusal

PROGRAM, HANDS, ORDER = SAMPLES[3]
TRACE = traced(PROGRAM, HANDS, ORDER)
LOG = expected_log(TRACE, 3, by_rule((1, 2)))[0]
PLAN = cheapest(TRACE, 3, 2)[1]
CODE = made(PROGRAM)
ASKED = (
    (run, (PROGRAM, HANDS, ORDER)),
    (traced, (PROGRAM, HANDS, ORDER)),
    (made, (PROGRAM,)),
    (unmade, (CODE,)),
    (slid, (CODE, HANDS, ORDER, 3, (1, 2))),
    (moved, (TRACE, 3, (1, 2))),
    (by_plan, (TRACE, 3, PLAN)),
    (cheapest, (TRACE, 3, 2)),
    (least_round, (TRACE, 20000)),
    (judged, (TRACE, 3, LOG)),
    (judged, (TRACE, 3, LOG[:-1])),
    (written, (PROGRAM,)),
    (read, (written(PROGRAM),)),
)
NO_PROGRAM = ((0, (("no",),)),)
# What is wrong for each argument, and with which refusal, for calls whose other arguments are right.
FAULTS = (
    (run, (PROGRAM, HANDS, ORDER), (
        (NO_PROGRAM, "BadProgram"), ([], "BadHands"), ([9], "BadOrder"),
    )),
    (traced, (PROGRAM, HANDS, ORDER), (
        (NO_PROGRAM, "BadProgram"), ([(9, ())], "BadHands"), ([0] * 201, "BadOrder"),
    )),
    (made, (PROGRAM,), ((NO_PROGRAM, "BadProgram"),)),
    (unmade, (CODE,), ((NO_PROGRAM, "BadCode"),)),
    (Machine, (CODE, HANDS, 3, (1, 2)), (
        (NO_PROGRAM, "BadCode"), (HANDS + HANDS, "BadHands"), (9, "BadRound"), ((1, 3), "BadRule"),
    )),
    (slid, (CODE, HANDS, ORDER, 3, (1, 2)), (
        (NO_PROGRAM, "BadCode"), ([], "BadHands"), ([-1], "BadOrder"), (1, "BadRound"), ((), "BadRule"),
    )),
    (moved, (TRACE, 3, (1, 2)), (([("no",)], "BadTrace"), (9, "BadRound"), ((3, 1), "BadRule"))),
    (by_plan, (TRACE, 3, PLAN), (([("rest",)], "BadTrace"), (1, "BadRound"), ([], "BadPlan"))),
    (cheapest, (TRACE, 3, 2), (([("pick", 4)], "BadTrace"), (0, "BadRound"), (101, "BadCost"))),
    (least_round, (TRACE, 20000), (([("call",)], "BadTrace"), (20001, "BadCost"))),
    (judged, (TRACE, 3, LOG), (([("back",)], "BadTrace"), (9, "BadRound"), ([("no",)], "BadLog"))),
    (written, (PROGRAM,), ((NO_PROGRAM, "BadProgram"),)),
    (read, ("fun 0",), (("no", "BadText"),)),
)


def spoil(value):
    """Change all lists in what was told."""
    if isinstance(value, (list, tuple)):
        for part in value:
            spoil(part)
    if isinstance(value, list):
        value.reverse()
        value.append(("no",))


class Whole(unittest.TestCase):
    def test_asked_again_the_same_is_told_whatever_became_of_it(self):
        for asked, arguments in ASKED:
            first = asked(*arguments)
            kept = copy.deepcopy(first)
            spoil(first)
            self.assertEqual(asked(*arguments), kept, asked)
            # Something else in between.
            for other, others in ASKED:
                other(*others)
            self.assertEqual(asked(*arguments), kept, asked)

    def test_nothing_that_is_handed_in_is_changed(self):
        for asked, arguments in ASKED:
            before = copy.deepcopy(arguments)
            asked(*arguments)
            self.assertEqual(arguments, before, asked)

    def test_nothing_that_is_handed_in_is_told(self):
        # What is told may be changed, and so may what was handed in: no list is both.
        trace, plan = [("pick", 0)], [1]
        least, best = cheapest(trace, 2, 0)
        self.assertEqual(best, plan)
        best.append(5)
        self.assertEqual((by_plan(trace, 2, plan), cheapest(trace, 2, 0)), ((0, 1, 1), (1, [1])))

    def test_what_was_handed_in_may_be_changed_later(self):
        for asked, arguments in ASKED:
            mine = copy.deepcopy(arguments)
            told = asked(*mine)
            kept = copy.deepcopy(told)
            spoil(mine)
            self.assertEqual(told, kept, asked)
            self.assertEqual(asked(*arguments), kept, asked)

    def test_what_is_refused_changes_nothing(self):
        for asked, right, faults in FAULTS:
            for at, (wrong, name) in enumerate(faults):
                arguments = list(copy.deepcopy(right))
                arguments[at] = wrong
                before = copy.deepcopy(arguments)
                refusal(getattr(errors, name), asked, *arguments)
                refusal(getattr(errors, name), asked, *arguments)
                self.assertEqual(arguments, before)

    def test_what_is_handed_in_first_is_refused_first(self):
        for asked, right, faults in FAULTS:
            self.assertEqual(len(right), len(faults))
            for first, (wrong, name) in enumerate(faults):
                for also in range(1 << len(faults)):
                    arguments = [
                        faults[at][0] if at == first or (at > first and also >> at & 1) else right[at]
                        for at in range(len(right))
                    ]
                    refusal(getattr(errors, name), asked, *arguments)

    def test_each_refusal_is_told_by_some_fault(self):
        told = {name for asked, right, faults in FAULTS for wrong, name in faults}
        others = {"SlideError", "NoHand", "NotMade", "NoRound", "Long"}
        names = {name for name, value in vars(errors).items() if inspect.isclass(value)}
        self.assertEqual(names, told | others)

    def test_each_is_caught_as_a_slide_error_and_as_a_value_error(self):
        for asked, right, faults in FAULTS:
            for kind in (errors.SlideError, ValueError):
                with self.assertRaises(kind):
                    asked(faults[0][0], *right[1:])

    def test_arguments_are_handed_in_by_their_places(self):
        for asked, right, faults in FAULTS:
            parameters = inspect.signature(asked).parameters.values()
            self.assertEqual([part.kind for part in parameters], [inspect.Parameter.POSITIONAL_OR_KEYWORD] * len(right))


class Together(unittest.TestCase):
    def test_from_a_text_to_a_log_that_is_let_by(self):
        text = written(STAIRS)
        program = read(text)
        code = made(program)
        hands, order = [(0, (4, 10)), (1, ())], [0, 1, 0, 1, 0, 0, 1, 1, 1, 0, 0, 1, 0, 1, 0, 0, 1, 1] * 2
        trace = traced(program, hands, order)
        self.assertEqual(unmade(code), program)
        self.assertEqual(slid(code, hands, order, 3, (2, 1)), run(program, hands, order))
        machine = Machine(code, hands, 3, (2, 1))
        for hand in order:
            machine.pick(hand)
        self.assertIsNone(judged(trace, 3, machine.log()))
        self.assertEqual(moved(trace, 3, (2, 1)), machine.counts())
        spilled, fetched, traps = machine.counts()
        least, plan = cheapest(trace, 3, 5)
        self.assertLessEqual(least, spilled + fetched + 5 * traps)
        self.assertLessEqual(least_round(trace, spilled + fetched)[0], 3)

    def test_a_plan_makes_a_log_that_is_let_by(self):
        chance = random.Random(81)
        for turn in range(100):
            trace = random_trace(chance, 80)
            many = chance.randint(2, 8)
            least, plan = cheapest(trace, many, chance.randrange(9))
            left = list(plan)
            log, traps = expected_log(trace, many, lambda word, most: left.pop(0))
            self.assertEqual((left, traps), ([], len(plan)))
            self.assertIsNone(judged(trace, many, log))
