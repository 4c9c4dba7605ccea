import unittest

from slideboxes.errors import BadHands, BadOrder, BadProgram
from slideboxes.machine import Machine, slid
from slideboxes.making import made
from slideboxes.plain import run, traced
from tests.helper import refusal

PROGRAM = tuple((many, (("rest",),)) for many in range(4))
GOOD = [(0, ()), (1, (0,)), (2, (999, 0)), (3, (0, 999, 5))]


class Hands(unittest.TestCase):
    def bad(self, hands, at, order=()):
        code = made(PROGRAM)
        order = list(order)
        before = list(hands)
        for asked, arguments in (
            (run, (PROGRAM, hands, order)),
            (traced, (PROGRAM, hands, order)),
            (Machine, (code, hands, 2, (1, 1))),
            (slid, (code, hands, order, 2, (1, 1))),
        ):
            self.assertEqual(refusal(BadHands, asked, *arguments).at, at, hands)
        self.assertEqual(hands, before)

    def test_one_to_four(self):
        for many in range(1, 5):
            run(PROGRAM, GOOD[:many], [])
            Machine(made(PROGRAM), GOOD[:many], 2, (1, 1))
        self.bad([], 0)
        self.bad(GOOD + GOOD[:1], 4)
        self.bad(GOOD + GOOD, 4)
        self.bad(GOOD[:3] + [(9, ())] + GOOD, 3)

    def test_hands_that_cannot_be(self):
        for hand in (
            (), (0,), (0, (), ()), (0, (), 5), ("0", (), "x"), (1, (5,), ((),)), ((),), ("", "", "", ""),
            (-1, ()), (4, ()), (0, (0,)), (1, ()), (1, (0, 0)), (3, (0, 0)), (3, (0, 0, 0, 0)), (2, (0,)),
            (1, (-1,)), (1, (1000,)), (2, (0, 1000)), (2, (-1, 0)), (3, (0, 0, 1000)), (True, (0,)), (1, (True,)),
            ("0", ()), (1, ("0",)), (1, "0"), (0, ""), (1, 0),
        ):
            self.bad([hand], 0)
            self.bad([GOOD[3], GOOD[1], hand, (9, ())], 2)
            self.bad(GOOD[:3] + [hand], 3)

    def test_numbers_at_their_bounds(self):
        for number in (0, 999):
            run(PROGRAM, [(1, (number,)), (3, (number,) * 3)], [])

    def test_hands_are_those_of_the_code(self):
        code = ((2, ()), (0, ()))
        Machine(code, [(0, (1, 2)), (1, ())], 2, (1, 1))
        self.assertEqual(refusal(BadHands, Machine, code, [(1, ()), (1, (1,))], 2, (1, 1)).at, 1)
        self.assertEqual(refusal(BadHands, Machine, code, [(2, ())], 2, (1, 1)).at, 0)


class Orders(unittest.TestCase):
    def bad(self, order, at):
        code = made(PROGRAM)
        hands = GOOD[:2]
        for asked, arguments in (
            (run, (PROGRAM, hands, order)),
            (traced, (PROGRAM, hands, order)),
            (slid, (code, hands, order, 2, (1, 1))),
        ):
            self.assertEqual(refusal(BadOrder, asked, *arguments).at, at, order)

    def test_200_and_201_picks(self):
        order = [0, 1] * 100
        self.assertEqual(run(PROGRAM, GOOD[:2], order), ([0, 0], []))
        self.assertEqual(slid(made(PROGRAM), GOOD[:2], order, 2, (1, 1)), ([0, 0], []))
        self.bad(order + [0], 200)
        self.bad(order * 2, 200)
        self.bad(order + [7], 200)
        self.bad(order[:-1] + [2, 0], 199)

    def test_picks_of_hands_that_there_are_not(self):
        for pick in (-1, 2, 3, 1000, True):
            self.bad([pick], 0)
            self.bad([0, 1, 1, pick, -1], 3)

    def test_picks_of_all_hands(self):
        self.assertEqual(run(PROGRAM, GOOD, [3, 3, 2, 1, 0]), ([None, None, None, 0], []))


class InTurn(unittest.TestCase):
    def test_what_is_handed_in_first_is_refused_first(self):
        for asked in (run, traced):
            refusal(BadProgram, asked, (), [], [-1])
            refusal(BadHands, asked, PROGRAM, [], [-1])
            refusal(BadOrder, asked, PROGRAM, GOOD, [-1])
