import random
import unittest

from slideboxes.errors import BadLog, Long
from slideboxes.judging import judged
from slideboxes.machine import Machine
from slideboxes.making import made
from slideboxes.plain import traced
from tests.helper import (
    FACTORS, SAMPLES, by_rule, down_and_up, events_of, expected_log, random_samples, random_trace, refusal,
    rounds_and_rules,
)

CALL, BACK, REST, OVER = ("call",), ("back",), ("rest",), ("over",)
PICK = [("pick", hand) for hand in range(4)]


def spill(within, hand=0):
    return ("spill", hand, within)


def fetch(within, hand=0):
    return ("fetch", hand, within)


def wants_met(event, last, innermost, calls_in, was_in, many):
    if event[0] == "pick":
        return event[1] == last or not calls_in
    if event[0] == "call":
        return any(was_in) and len(calls_in) < many - 1
    return innermost in calls_in


def expected_judgement(trace, many, log):
    """The same by lists of calls that are in and out, (hand, within), and of whether the innermost one was in."""
    calls_in, calls_out = [], {hand: [(hand, 0)] for hand in range(4)}
    last, was_in, left = None, [], list(trace)
    for number, row in enumerate(log):
        here = calls_in + calls_out.get(last, [])
        innermost = max(here, default=None)
        if row[0] == "spill":
            if not calls_in or row[1:] != min(calls_in):
                return number
            calls_in.remove(row[1:])
            calls_out[last].append(row[1:])
        elif row[0] == "fetch":
            if not calls_out.get(last) or row[1:] != max(calls_out[last]) or len(calls_in) >= many - 1:
                return number
            calls_out[last].remove(row[1:])
            calls_in.append(row[1:])
        else:
            if not left or row != left.pop(0) or not wants_met(row, last, innermost, calls_in, was_in, many):
                return number
            was_in = []
            if row[0] == "pick":
                last = row[1]
            elif row[0] == "call":
                calls_in.append((last, innermost[1] + 1))
            elif row[0] in ("back", "over"):
                calls_in.remove(innermost)
        was_in.append(max(calls_in + calls_out[last], default=None) in calls_in)
    return len(log) if left else None


def spoilt(chance, log):
    """The log with a few rows taken out, put in, changed or in another turn."""
    log = list(log)
    for turn in range(chance.randint(1, 3)):
        at = chance.randrange(len(log) + 1)
        row = chance.choice((
            CALL, BACK, REST, OVER, PICK[chance.randrange(4)], *log[max(at - 3, 0):at + 3],
            (chance.choice(("spill", "fetch")), chance.randrange(2), chance.randrange(5)),
        ))
        way = chance.randrange(4)
        if way == 0:
            log[at:at + 1] = []
        elif way == 1:
            log[at:at] = [row]
        elif way == 2:
            log[at:at + 1] = [row]
        else:
            log[at:at + 2] = log[at:at + 2][::-1]
    return log


class Logs(unittest.TestCase):
    trace = [PICK[0], REST]

    def bad(self, log, at):
        before = list(log)
        self.assertEqual(refusal(BadLog, judged, self.trace, 2, log).at, at, log[-3:])
        self.assertEqual(log, before)

    def test_what_is_neither_an_event_nor_a_move(self):
        for row in (
            (), ("call", 0), ("back", 0), ("rest", 0), ("over", 0), ("pick",), ("pick", 0, 0), ("pick", 4),
            ("pick", -1), ("pick", True), ("no",), ("",), (0,), "call", 0, ((),), ("spill",), ("spill", 0),
            ("spill", 0, 0, 0), ("fetch",), ("fetch", 0), ("fetch", 0, 0, 0), ("spill", 4, 0),
            ("spill", -1, 0), ("fetch", 4, 0), ("fetch", -1, 0), ("spill", 0, 61), ("spill", 0, -1), ("fetch", 0, 61),
            ("fetch", 0, -1), ("Fetch", 0, 0), ("pick", 0, 60), ("call", 0, 0), ("fetch", "0", 0), ("fetch", 0, "0"),
            ("spill", (), ()), ("move", 0, 0),
        ):
            self.bad([row], 0)
            self.bad([PICK[0], fetch(0), row, ("no",)], 2)
            # What can't be ahead of it makes it no better.
            self.bad([OVER, OVER, OVER, row], 3)
            self.bad([PICK[0], fetch(0), REST, row], 3)

    def test_bounds_are_let_by(self):
        for row in (PICK[0], PICK[3], CALL, BACK, REST, OVER):
            self.assertIn(judged(self.trace, 2, [row]), (0, 1))
        for word in ("spill", "fetch"):
            for hand in (0, 3):
                for within in (0, 60):
                    self.assertEqual(judged(self.trace, 2, [(word, hand, within)]), 0)

    def test_20000_rows_and_one_more(self):
        log = [PICK[0], fetch(0)] + [spill(0), fetch(0)] * 9998 + [REST]
        self.assertEqual(len(log), 19999)
        self.assertIsNone(judged(self.trace, 2, log))
        log.append(spill(0))
        self.assertIsNone(judged(self.trace, 2, log))
        self.bad(log + [fetch(0)], 20000)
        self.bad(log + [("no",)], 20000)
        self.bad([REST] * 20001, 20000)
        self.bad([REST] * 19999 + [("no",)] * 5, 19999)
        self.assertEqual(judged(self.trace, 2, log[:-2] + [spill(0), fetch(0)]), 20000)
        self.assertEqual(judged(self.trace, 2, [REST] * 20000), 0)


class Judged(unittest.TestCase):
    def judge(self, trace, many, log, told):
        self.assertEqual(judged(trace, many, log), told, log)
        self.assertEqual(expected_judgement(trace, many, log), told, log)

    def test_all_is_right(self):
        trace = [PICK[0], CALL, CALL, BACK, BACK, OVER]
        self.judge(trace, 2, [
            PICK[0], fetch(0), spill(0), CALL, spill(1), CALL, BACK, fetch(1), BACK, fetch(0), OVER,
        ], None)
        self.judge(trace, 4, [PICK[0], fetch(0), CALL, CALL, BACK, BACK, OVER], None)

    def test_events_are_the_traces_in_turn(self):
        trace = [PICK[0], CALL, BACK, REST]
        log = [PICK[0], fetch(0), CALL, BACK, REST]
        self.judge(trace, 3, log, None)
        for at in (0, 2, 3, 4):
            for other in (CALL, BACK, REST, OVER, PICK[0], PICK[1]):
                if other != log[at]:
                    self.judge(trace, 3, log[:at] + [other] + log[at + 1:], at)
        for more in (CALL, BACK, REST, OVER, PICK[0], PICK[1]):
            self.judge(trace, 3, log + [more], 5)
        self.judge([], 3, [PICK[0]], 0)

    def test_events_that_are_missing(self):
        trace = [PICK[0], CALL, BACK, REST]
        log = [PICK[0], fetch(0), CALL, BACK, REST]
        for many in range(5):
            self.judge(trace, 3, log[:many], many)
        self.judge(trace, 3, log[:4] + [spill(0), fetch(0)], 6)
        self.judge([PICK[0]], 3, [], 0)
        # A row that can't be is told ahead of what is missing.
        self.judge(trace, 3, log[:2] + [fetch(0)], 2)

    def test_moves_behind_the_last_event(self):
        trace = [PICK[0], CALL, REST]
        log = [PICK[0], fetch(0), CALL, REST]
        self.judge(trace, 3, log + [spill(0), spill(1), fetch(1)], None)
        self.judge(trace, 3, log + [spill(1)], 4)
        self.judge([PICK[0], OVER], 3, [PICK[0], fetch(0), OVER], None)
        for move in (spill(0), fetch(0), fetch(0, 1), spill(0, 1)):
            self.judge([PICK[0], OVER], 3, [PICK[0], fetch(0), OVER, move], 3)

    def test_rest_back_and_over_want_the_innermost_in(self):
        for event in (REST, OVER):
            self.judge([PICK[0], event], 3, [PICK[0], event], 1)
            self.judge([PICK[0], event], 3, [PICK[0], fetch(0), event], None)
            # That it was in does not do.
            self.judge([PICK[0], event], 3, [PICK[0], fetch(0), spill(0), event], 3)
            self.judge([PICK[0], event], 3, [PICK[0], fetch(0), spill(0), fetch(0), event], None)
        trace = [PICK[0], CALL, BACK, REST]
        ahead = [PICK[0], fetch(0), CALL]
        self.judge(trace, 3, ahead + [spill(0), BACK, fetch(0), REST], None)
        self.judge(trace, 3, ahead + [spill(0), spill(1), BACK, REST], 5)
        self.judge(trace, 3, ahead + [spill(0), BACK, REST], 5)
        self.judge([PICK[0], CALL, REST], 3, ahead + [spill(0), spill(1), REST], 5)

    def test_a_call_wants_that_it_was_in(self):
        self.judge([PICK[0], CALL], 3, [PICK[0], CALL], 1)
        self.judge([PICK[0], CALL], 3, [PICK[0], fetch(0), CALL], None)
        self.judge([PICK[0], CALL], 3, [PICK[0], fetch(0), spill(0), CALL], None)
        self.judge([PICK[0], CALL], 2, [PICK[0], fetch(0), spill(0), CALL], None)
        # Behind a back, too.
        trace = [PICK[0], CALL, BACK, CALL]
        ahead = [PICK[0], fetch(0), spill(0), CALL, BACK]
        self.judge(trace, 3, ahead + [CALL], 5)
        self.judge(trace, 3, ahead + [fetch(0), CALL], None)
        self.judge(trace, 3, ahead + [fetch(0), spill(0), CALL], None)

    def test_since_the_event_ahead(self):
        # It was in ahead of the pick, but not since.
        trace = [PICK[0], REST, PICK[0], CALL]
        ahead = [PICK[0], fetch(0), REST]
        self.judge(trace, 3, ahead + [spill(0), PICK[0], CALL], 5)
        self.judge(trace, 3, ahead + [spill(0), PICK[0], fetch(0), CALL], None)
        self.judge(trace, 3, ahead + [spill(0), PICK[0], fetch(0), spill(0), CALL], None)
        self.judge(trace, 3, ahead + [PICK[0], spill(0), CALL], None)
        self.judge(trace, 3, ahead + [PICK[0], CALL], None)

    def test_a_call_wants_fewer_in_than_may_be(self):
        for many in range(2, 9):
            trace = [PICK[0]] + [CALL] * (many - 1)
            log = [PICK[0], fetch(0)] + [CALL] * (many - 1)
            self.judge(trace, many, log, many)
            self.judge(trace, many, log[:-1] + [spill(0), CALL], None)
            all_out = [spill(within) for within in range(many - 1)]
            self.judge(trace, many, log[:-1] + all_out + [CALL], None)

    def test_a_pick_of_another_hand_wants_none_in(self):
        trace = [PICK[0], CALL, REST, PICK[1], REST]
        ahead = [PICK[0], fetch(0), CALL, REST]
        behind = [fetch(0, 1), REST]
        self.judge(trace, 4, ahead + [PICK[1]] + behind, 4)
        self.judge(trace, 4, ahead + [spill(0), PICK[1]] + behind, 5)
        self.judge(trace, 4, ahead + [spill(0), spill(1), PICK[1]] + behind, None)
        self.judge(trace, 4, ahead[:3] + [spill(0), REST, spill(1), PICK[1]] + behind, None)
        # Behind one that is over none is in.
        self.judge([PICK[0], OVER, PICK[1]], 2, [PICK[0], fetch(0), OVER, PICK[1]], None)

    def test_a_pick_of_the_same_hand_wants_nothing(self):
        trace = [PICK[0], REST, PICK[0], REST]
        ahead = [PICK[0], fetch(0), REST]
        self.judge(trace, 2, ahead + [PICK[0], REST], None)
        self.judge(trace, 2, ahead + [spill(0), PICK[0], fetch(0), REST], None)
        self.judge(trace, 2, ahead + [spill(0), fetch(0), PICK[0], REST], None)

    def test_ahead_of_the_first_pick_nothing_moves(self):
        for move in (spill(0), fetch(0), fetch(0, 3)):
            self.judge([PICK[0], REST], 3, [move, PICK[0], fetch(0), REST], 0)

    def test_only_the_outermost_that_is_in_is_spilled(self):
        trace = [PICK[0], CALL, CALL, REST]
        ahead = [PICK[0], fetch(0), CALL, CALL]
        for within in (1, 2, 3, 60):
            self.judge(trace, 4, ahead + [spill(within)], 4)
        self.judge(trace, 4, ahead + [spill(0), spill(0)], 5)
        self.judge(trace, 4, ahead + [spill(0), spill(2)], 5)
        self.judge(trace, 4, ahead + [spill(0), spill(1), spill(2), spill(3)], 7)
        self.judge(trace, 4, ahead + [spill(0, 1)], 4)
        self.judge([PICK[0]], 4, [PICK[0], spill(0)], 1)

    def test_only_the_innermost_that_is_laid_aside_is_fetched(self):
        trace = [PICK[0], CALL, CALL, REST]
        ahead = [PICK[0], fetch(0), CALL, CALL, spill(0), spill(1)]
        for within in (0, 2, 3, 60):
            self.judge(trace, 4, ahead + [fetch(within)], 6)
        self.judge(trace, 4, ahead + [fetch(1), fetch(0), REST], None)
        self.judge(trace, 4, ahead + [fetch(1), fetch(0), fetch(0)], 8)
        self.judge(trace, 4, ahead + [spill(2), fetch(1)], 7)
        self.judge(trace, 4, ahead + [spill(2), fetch(2), REST], None)

    def test_only_of_the_hand_picked_last(self):
        trace = [PICK[0], REST, PICK[1], REST]
        ahead = [PICK[0], fetch(0), REST, spill(0), PICK[1]]
        self.judge(trace, 4, ahead + [fetch(0)], 5)
        self.judge(trace, 4, ahead + [fetch(0, 2)], 5)
        self.judge(trace, 4, ahead + [fetch(0, 1), fetch(0)], 6)
        self.judge(trace, 4, ahead[:4] + [fetch(0, 1)], 4)
        self.judge(trace, 4, [PICK[0], fetch(0, 1)], 1)

    def test_fetched_only_as_long_as_fewer_are_in_than_may_be(self):
        for many in range(2, 8):
            trace = [PICK[0]] + [CALL] * many
            log = [PICK[0], fetch(0)] + [CALL] * (many - 2) + [spill(0), CALL]
            self.judge(trace, many, log + [fetch(0)], many + 2)
            self.judge(trace, many + 1, log + [fetch(0)], many + 3)

    def test_moves_need_not_be_wanted(self):
        trace = [PICK[0], CALL, REST, PICK[0], BACK, OVER]
        self.judge(trace, 5, [
            PICK[0], fetch(0), spill(0), fetch(0), CALL, spill(0), REST, spill(1), fetch(1), fetch(0), PICK[0],
            spill(0), spill(1), fetch(1), BACK, fetch(0), spill(0), fetch(0), OVER,
        ], None)

    def test_sixty_deep(self):
        for many in (2, 8):
            trace = down_and_up(60)
            log, traps = expected_log(trace, many, by_rule((1, many - 1)))
            self.judge(trace, many, log, None)

    def test_5000_events(self):
        trace = [PICK[0]] + [CALL, BACK] * 2499 + [REST]
        log, traps = expected_log(trace, 2, by_rule((1, 1)))
        self.judge(trace, 2, log, None)
        self.judge(trace, 3, log, None)
        self.judge(trace, 2, log[:-1] + [BACK], 9998)
        self.judge(trace, 2, log[:-1], 9998)


class MachineLogs(unittest.TestCase):
    def test_a_machines_log_is_let_by(self):
        for program, hands, order in list(SAMPLES) + random_samples(61, 12):
            trace = traced(program, hands, order)
            for many, rule in rounds_and_rules():
                machine = Machine(made(program), hands, many, rule)
                for hand in order:
                    machine.pick(hand)
                log = machine.log()
                self.assertIsNone(judged(trace, many, log))
                self.assertIsNone(judged(events_of(log), many, log))
                # More may be in, in a greater round.
                self.assertIsNone(judged(trace, 8, log))

    def test_the_log_of_a_refused_machine(self):
        for many, rule in rounds_and_rules():
            machine = Machine(made(FACTORS), [(0, (61,))], many, rule)
            refusal(Long, machine.pick, 0)
            log = machine.log()
            self.assertIsNone(judged(events_of(log), many, log))

    def test_spoilt_logs(self):
        chance = random.Random(62)
        told = set()
        for turn in range(4000):
            many = chance.randint(2, 5)
            rule = (chance.randint(1, many - 1), chance.randint(1, many - 1))
            trace = random_trace(chance, chance.randint(1, 40), chance.randint(1, 3), 6)
            log = spoilt(chance, expected_log(trace, many, by_rule(rule))[0])
            expected = expected_judgement(trace, many, log)
            self.assertEqual(judged(trace, many, log), expected, (trace, many, log))
            told.add("none" if expected is None else "missing" if expected == len(log) else log[expected][0])
        self.assertEqual(told, {"none", "missing", "pick", "call", "back", "rest", "over", "spill", "fetch"})
