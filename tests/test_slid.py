import unittest

from slideboxes.errors import BadCode, BadHands, BadOrder, BadRound, BadRule, Long
from slideboxes.machine import Machine, slid
from slideboxes.making import made
from slideboxes.plain import run, traced
from tests.helper import SAMPLES, STAIRS, by_rule, expected_log, moves_in, random_samples
from tests.helper import refusal, rounds_and_rules

EMPTY = ((0, ()),)
DEEP = ((1, (("num", 4, 1), ("skip", 0, 2), ("less", 12, 0, 4), ("call", 0))),)


class Slid(unittest.TestCase):
    def test_what_run_tells_in_all_rounds_by_all_rules(self):
        for program, hands, order in list(SAMPLES) + random_samples(2, 8):
            code = made(program)
            told = run(program, hands, order)
            for many, rule in rounds_and_rules():
                self.assertEqual(slid(code, hands, order, many, rule), told, (program, many, rule))

    def test_what_run_tells_of_many(self):
        samples = random_samples(3, 420)
        for at, (many, rule) in enumerate(rounds_and_rules() * 3):
            program, hands, order = samples[at]
            self.assertEqual(slid(made(program), hands, order, many, rule), run(program, hands, order))

    def test_the_log_and_the_counts(self):
        samples = random_samples(4, 420)
        for at, (many, rule) in enumerate(rounds_and_rules() * 3):
            program, hands, order = samples[at]
            machine = Machine(made(program), hands, many, rule)
            for hand in order:
                machine.pick(hand)
            log, traps = expected_log(traced(program, hands, order), many, by_rule(rule))
            self.assertEqual(machine.log(), log)
            self.assertEqual(machine.counts(), (*moves_in(log), traps))

    def test_a_code_that_is_not_made(self):
        code = ((1, (("say", 0), ("say", 4), ("rest",), ("num", 12, 3), ("call", 1), ("say", 12))),
                (0, (("plus", 0, 0, 0),)))
        self.assertEqual(slid(code, [(0, (5,)), (1, ())], [0, 1, 0], 2, (1, 1)), ([5, 0], [(0, 5), (0, 0), (0, 6)]))
        self.assertEqual(slid(code, [(0, (5,)), (1, ())], [0, 1], 2, (1, 1)), ([None, 0], [(0, 5), (0, 0)]))

    def test_kinds_of_what_is_told(self):
        told = slid(made(STAIRS), [(0, (2, 5))], [0], 2, (1, 1))
        self.assertEqual((type(told), [type(part) for part in told]), (tuple, [list, list]))

    def test_nothing_that_is_handed_in_is_changed(self):
        hands, order = [(0, (2, 5)), (1, ())], [0, 1, 1, 0]
        first = slid(made(STAIRS), hands, order, 2, (1, 1))
        self.assertEqual((hands, order), ([(0, (2, 5)), (1, ())], [0, 1, 1, 0]))
        first[0].clear()
        first[1].clear()
        self.assertEqual(slid(made(STAIRS), hands, order, 2, (1, 1)), run(STAIRS, hands, order))

    def test_what_is_handed_in_first_is_refused_first(self):
        refusal(BadCode, slid, (), [], [9], 1, ())
        refusal(BadHands, slid, EMPTY, [], [9], 1, ())
        self.assertEqual(refusal(BadOrder, slid, EMPTY, [(0, ())], [0, 9], 1, ()).at, 1)
        refusal(BadRound, slid, EMPTY, [(0, ())], [0], 1, ())
        refusal(BadRound, slid, EMPTY, [(0, ())], [0], 9, (1, 1))
        refusal(BadRule, slid, EMPTY, [(0, ())], [0], 2, (1, 2))
        refusal(BadRule, slid, DEEP, [(0, (61,))], [0], 2, (1,))
        refusal(BadOrder, slid, DEEP, [(0, (61,))], [0, 1], 2, (1, 1))
        refusal(Long, slid, DEEP, [(0, (61,))], [0], 2, (1, 1))

    def test_long_only_if_it_comes_to_that(self):
        self.assertEqual(slid(DEEP, [(0, (61,)), (0, (60,))], [1], 2, (1, 1)), ([None, 60], []))
