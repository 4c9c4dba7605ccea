import copy
import unittest

from slideboxes.errors import BadCode, BadHands, BadRound, BadRule, Long, NoHand
from slideboxes.machine import Machine
from slideboxes.making import made
from tests.helper import STAIRS, refusal

CALL, BACK, REST, OVER = ("call",), ("back",), ("rest",), ("over",)
EMPTY = ((0, ()),)


def stretches(*rows):
    """The boxes of a round, each stretch told by its first boxes."""
    return [box for row in rows for box in list(row) + [0] * (12 - len(row))]


def state(machine):
    return machine.told(), machine.boxes(), machine.counts(), machine.inside(), machine.log()


class Making(unittest.TestCase):
    def test_rounds(self):
        for many in range(2, 9):
            self.assertEqual(Machine(EMPTY, [(0, ())], many, (1, 1)).boxes(), [0] * (12 * many))
        for many in (-2, 0, 1, 9, 10, True):
            refusal(BadRound, Machine, EMPTY, [(0, ())], many, (1, 1))

    def test_rules(self):
        for many in range(2, 9):
            for rule in ((1, 1), (many - 1, 1), (1, many - 1), (many - 1, many - 1)):
                Machine(EMPTY, [(0, ())], many, rule)
            for rule in (
                (0, 1), (1, 0), (many, 1), (1, many), (-1, 1), (1, -1), (0, 0), (), (1,), (1, 1, 1), (many, many),
                (1, True), (True, 1),
            ):
                refusal(BadRule, Machine, EMPTY, [(0, ())], many, rule)

    def test_what_is_handed_in_first_is_refused_first(self):
        refusal(BadCode, Machine, (), [], 1, ())
        refusal(BadHands, Machine, EMPTY, [], 1, ())
        refusal(BadRound, Machine, EMPTY, [(0, ())], 1, ())
        refusal(BadRule, Machine, EMPTY, [(0, ())], 2, ())

    def test_at_first(self):
        machine = Machine(made(STAIRS), [(0, (5, 6)), (1, ())], 3, (1, 2))
        self.assertEqual(state(machine), ([None, None], [0] * 36, (0, 0, 0), None, []))

    def test_kinds_of_what_is_told(self):
        machine = Machine(made(STAIRS), [(0, (5, 6))], 3, (1, 2))
        told = (machine.pick(0), machine.told(), machine.boxes(), machine.log(), machine.counts(), machine.inside())
        self.assertEqual([type(part) for part in told], [list] * 4 + [tuple] * 2)


class Checked(unittest.TestCase):
    def behind_pick(self, machine, hand, said, told, boxes, counts, inside, more):
        """Ask all of a machine behind a pick; more is what the pick adds to its log."""
        before = machine.log()
        self.assertEqual(machine.pick(hand), said)
        self.assertEqual(machine.told(), told)
        self.assertEqual(machine.boxes(), boxes)
        self.assertEqual(machine.counts(), counts)
        self.assertEqual(machine.inside(), inside)
        self.assertEqual(machine.log(), before + more)


class OneHand(Checked):
    code = (
        (1, (
            ("copy", 4, 0), ("plus", 12, 0, 4), ("num", 15, 9), ("rest",), ("call", 1), ("rest",),
            ("say", 12), ("say", 4), ("copy", 0, 12),
        )),
        (1, (
            ("num", 5, 3), ("rest",), ("plus", 12, 0, 5), ("call", 2), ("rest",), ("plus", 0, 12, 5), ("back",),
            ("num", 0, 1),
        )),
        (1, (("say", 4), ("times", 4, 0, 0), ("rest",), ("copy", 0, 4))),
    )

    def test_round_of_2(self):
        # One call may be in, so each call and each back is a trap. Calls 0 and 2 share the first stretch.
        machine = Machine(self.code, [(0, (7,))], 2, (1, 1))
        first = ("fetch", 0, 0)
        pick = ("pick", 0)
        self.behind_pick(
            machine, 0, [], [None], stretches([7, 0, 0, 0, 7], [14, 0, 0, 9]),
            (0, 1, 1), (0, 0, 0), [pick, first, REST],
        )
        self.behind_pick(
            machine, 0, [], [None], stretches([7, 0, 0, 0, 7], [14, 0, 0, 9, 0, 3]),
            (1, 1, 2), (0, 1, 1), [pick, ("spill", 0, 0), CALL, REST],
        )
        # The 7 in box 4 of call 2 is left over from call 0.
        self.behind_pick(
            machine, 0, [7], [None], stretches([17, 0, 0, 0, 289], [14, 0, 0, 9, 0, 3]),
            (2, 1, 3), (0, 2, 2), [pick, ("spill", 0, 1), CALL, REST],
        )
        self.behind_pick(
            machine, 0, [], [None], stretches([289, 0, 0, 0, 289], [14, 0, 0, 9, 0, 3]),
            (2, 2, 4), (0, 1, 1), [pick, BACK, ("fetch", 0, 1), REST],
        )
        self.behind_pick(
            machine, 0, [], [None], stretches([7, 0, 0, 0, 7], [292, 0, 0, 9, 0, 3]),
            (2, 3, 5), (0, 0, 0), [pick, BACK, first, REST],
        )
        over = stretches([292, 0, 0, 0, 7], [292, 0, 0, 9, 0, 3])
        self.behind_pick(machine, 0, [292, 7], [292], over, (2, 3, 5), None, [pick, OVER])
        self.behind_pick(machine, 0, [], [292], over, (2, 3, 5), None, [])

    def test_round_of_3(self):
        # Two calls may be in; the rule spills and fetches both at once.
        machine = Machine(self.code, [(0, (7,))], 3, (2, 2))
        pick = ("pick", 0)
        for said in ([], [], [0]):
            self.assertEqual(machine.pick(0), said)
        self.assertEqual(machine.log(), [
            pick, ("fetch", 0, 0), REST, pick, CALL, REST,
            pick, ("spill", 0, 0), ("spill", 0, 1), CALL, REST,
        ])
        self.assertEqual(machine.boxes(), stretches([7, 0, 0, 0, 7], [14, 0, 0, 9, 0, 3], [17, 0, 0, 0, 289]))
        self.assertEqual((machine.counts(), machine.inside()), ((2, 1, 2), (0, 2, 2)))
        self.behind_pick(
            machine, 0, [], [None], stretches([7, 0, 0, 0, 7], [14, 0, 0, 9, 0, 3], [289, 0, 0, 0, 289]),
            (2, 3, 3), (0, 0, 1), [pick, BACK, ("fetch", 0, 1), ("fetch", 0, 0), REST],
        )
        self.behind_pick(
            machine, 0, [], [None], stretches([7, 0, 0, 0, 7], [292, 0, 0, 9, 0, 3], [289, 0, 0, 0, 289]),
            (2, 3, 3), (0, 0, 0), [pick, BACK, REST],
        )
        self.assertEqual((machine.pick(0), machine.told(), machine.counts()), ([292, 7], [292], (2, 3, 3)))

    def test_a_round_in_which_all_are_in(self):
        for many in range(4, 9):
            machine = Machine(self.code, [(0, (7,))], many, (1, 1))
            said = [number for turn in range(6) for number in machine.pick(0)]
            self.assertEqual((said, machine.told(), machine.counts()), ([0, 292, 7], [292], (0, 1, 1)))

    def test_less_and_skip(self):
        code = ((2, (
            ("less", 11, 0, 1), ("skip", 11, 1), ("say", 11), ("skip", 4, 2), ("say", 0), ("say", 0), ("say", 1),
            ("skip", 0, 0), ("copy", 0, 11), ("skip", 4, 1), ("num", 0, 1),
        )),)
        for arguments, said, told in (((3, 5), [998, 5], 998), ((5, 5), [5], 0)):
            machine = Machine(code, [(0, arguments)], 2, (1, 1))
            self.assertEqual((machine.pick(0), machine.told()), (said, [told]))

    def test_behind_the_last_row_it_goes_back(self):
        machine = Machine(((3, ()),), [(0, (4, 5, 6))], 2, (1, 1))
        self.behind_pick(
            machine, 0, [], [4], stretches([4, 5, 6], []), (0, 1, 1), None, [("pick", 0), ("fetch", 0, 0), OVER],
        )

    def test_outs_of_the_last_stretch_are_the_first_ins(self):
        code = ((0, (("call", 1),)), (0, (("num", 12, 8), ("num", 15, 9), ("num", 11, 5), ("rest",), ("say", 12))))
        machine = Machine(code, [(0, ())], 2, (1, 1))
        machine.pick(0)
        self.assertEqual(machine.boxes(), stretches([8, 0, 0, 9], [0] * 11 + [5]))
        # What was spilled of the first stretch ahead of that is laid back behind the call.
        self.assertEqual((machine.pick(0), machine.told()), ([8], [0]))


class Depths(unittest.TestCase):
    # Calls itself as often as the argument tells.
    code = ((1, (("num", 4, 1), ("skip", 0, 2), ("less", 12, 0, 4), ("call", 0))),)

    def moves(self, many, rule, depth):
        machine = Machine(self.code, [(0, (depth,))], many, rule)
        machine.pick(0)
        return machine.log(), machine.counts()

    def test_spills_2_fetches_1_of_4(self):
        log, counts = self.moves(4, (2, 1), 5)
        self.assertEqual(log, [
            ("pick", 0), ("fetch", 0, 0), CALL, CALL,
            ("spill", 0, 0), ("spill", 0, 1), CALL, CALL,
            ("spill", 0, 2), ("spill", 0, 3), CALL,
            BACK, BACK, ("fetch", 0, 3), BACK, ("fetch", 0, 2), BACK, ("fetch", 0, 1), BACK, ("fetch", 0, 0), OVER,
        ])
        self.assertEqual(counts, (4, 5, 7))

    def test_spills_1_fetches_3_of_4(self):
        log, counts = self.moves(4, (1, 3), 5)
        self.assertEqual(log, [
            ("pick", 0), ("fetch", 0, 0), CALL, CALL,
            ("spill", 0, 0), CALL, ("spill", 0, 1), CALL, ("spill", 0, 2), CALL,
            BACK, BACK, BACK, ("fetch", 0, 2), ("fetch", 0, 1), ("fetch", 0, 0), BACK, BACK, OVER,
        ])
        self.assertEqual(counts, (3, 4, 5))

    def test_fewer_are_laid_aside_than_the_rule_tells(self):
        log, counts = self.moves(4, (2, 3), 3)
        self.assertEqual(log, [
            ("pick", 0), ("fetch", 0, 0), CALL, CALL,
            ("spill", 0, 0), ("spill", 0, 1), CALL, BACK, BACK, ("fetch", 0, 1), ("fetch", 0, 0), BACK, OVER,
        ])
        self.assertEqual(counts, (2, 3, 3))

    def test_all_that_are_in_are_spilled(self):
        log, counts = self.moves(3, (2, 1), 2)
        self.assertEqual(log[2:6], [CALL, ("spill", 0, 0), ("spill", 0, 1), CALL])
        self.assertEqual(counts, (2, 3, 4))

    def test_no_trap_in_a_round_that_is_great_enough(self):
        self.assertEqual(self.moves(8, (7, 7), 6)[1], (0, 1, 1))
        self.assertEqual(self.moves(8, (7, 7), 7)[1], (7, 8, 3))


class TwoHands(Checked):
    code = (
        (1, (
            ("plus", 12, 0, 0), ("copy", 13, 0), ("copy", 14, 0), ("num", 15, 6), ("rest",), ("call", 1),
            ("say", 12), ("say", 15), ("copy", 0, 12),
        )),
        (1, (("num", 4, 1), ("plus", 12, 0, 4), ("num", 15, 8), ("rest",), ("copy", 0, 12), ("say", 15))),
    )

    def test_switches(self):
        machine = Machine(self.code, [(0, (10,)), (0, (20,))], 3, (1, 2))
        self.behind_pick(
            machine, 0, [], [None, None], stretches([10], [20, 10, 10, 6], []),
            (0, 1, 1), (0, 0, 0), [("pick", 0), ("fetch", 0, 0), REST],
        )
        self.behind_pick(
            machine, 1, [], [None, None], stretches([20], [40, 20, 20, 6], []),
            (1, 2, 2), (1, 0, 0), [("spill", 0, 0), ("pick", 1), ("fetch", 1, 0), REST],
        )
        # The same hand again: nothing moves.
        self.behind_pick(
            machine, 1, [], [None, None], stretches([20], [40, 20, 20, 6, 1], [41, 0, 0, 8]),
            (1, 2, 2), (1, 0, 1), [("pick", 1), CALL, REST],
        )
        # Hand 0's outs are laid back, to be the ins of what it calls; the outs of hand 1's call are kept.
        self.behind_pick(
            machine, 0, [], [None, None], stretches([10], [20, 10, 10, 6, 1], [21, 0, 0, 8]),
            (3, 3, 3), (0, 0, 1), [("spill", 1, 0), ("spill", 1, 1), ("pick", 0), ("fetch", 0, 0), CALL, REST],
        )
        over = stretches([21], [21, 10, 10, 6, 1], [21, 0, 0, 8])
        self.behind_pick(
            machine, 0, [8, 21, 6], [21, None], over, (3, 3, 3), None, [("pick", 0), BACK, OVER],
        )
        # One that is over.
        self.behind_pick(machine, 0, [], [21, None], over, (3, 3, 3), None, [])
        # Nothing is in, so nothing is spilled; both calls of hand 1 are fetched.
        self.behind_pick(
            machine, 1, [8, 41, 6], [21, 41], stretches([41], [41, 20, 20, 6, 1], [41, 0, 0, 8]),
            (3, 5, 4), None, [("pick", 1), ("fetch", 1, 1), ("fetch", 1, 0), BACK, OVER],
        )

    def test_one_call_is_fetched_at_a_switch(self):
        machine = Machine(self.code, [(0, (10,)), (0, (20,))], 3, (1, 1))
        for hand in (0, 0, 1):
            machine.pick(hand)
        self.behind_pick(
            machine, 0, [8, 21, 6], [21, None], stretches([21], [21, 10, 10, 6, 1], [21, 0, 0, 8]),
            (3, 4, 4), None,
            [("spill", 1, 0), ("pick", 0), ("fetch", 0, 1), BACK, ("fetch", 0, 0), OVER],
        )

    def test_outs_are_0_at_first(self):
        code = ((0, (("num", 12, 1), ("num", 13, 2), ("num", 14, 3), ("num", 15, 4), ("num", 4, 5), ("rest",))),
                (0, (("say", 12), ("say", 13), ("say", 14), ("say", 15), ("say", 4))))
        machine = Machine(code, [(0, ()), (1, ())], 2, (1, 1))
        machine.pick(0)
        self.assertEqual(machine.boxes(), stretches([0, 0, 0, 0, 5], [1, 2, 3, 4]))
        self.assertEqual(machine.pick(1), [0, 0, 0, 0, 0])
        self.assertEqual(machine.boxes(), [0] * 24)
        machine.pick(0)
        self.assertEqual(machine.boxes(), stretches([0, 0, 0, 0, 5], [1, 2, 3, 4]))

    def test_only_the_first_four_are_laid_back(self):
        # Hand 0 leaves a 9 in an own box of the second stretch; hand 1 finds it there, as nothing is wiped.
        code = ((0, (("call", 1), ("rest",))), (0, (("num", 4, 9), ("num", 11, 7))),
                (0, (("call", 3), ("rest",))), (0, (("say", 4), ("say", 11), ("say", 0))))
        machine = Machine(code, [(0, ()), (2, ())], 3, (1, 1))
        machine.pick(0)
        self.assertEqual(machine.pick(1), [9, 7, 0])

    def test_a_pick_of_one_that_is_over_is_no_switch(self):
        code = ((0, (("rest",), ("rest",))), (0, ()))
        machine = Machine(code, [(0, ()), (1, ())], 2, (1, 1))
        for hand in (1, 0):
            machine.pick(hand)
        before = state(machine)
        self.assertEqual(before[2:4], ((0, 2, 2), (0, 0, 0)))
        self.assertEqual(machine.pick(1), [])
        self.assertEqual(state(machine), before)
        machine.pick(0)
        self.assertEqual(machine.log(), before[4] + [("pick", 0), REST])
        self.assertEqual(machine.counts(), (0, 2, 2))

    def test_a_switch_behind_one_that_is_over(self):
        code = ((1, (("num", 15, 3),)),)
        machine = Machine(code, [(0, (4,)), (0, (5,)), (0, (6,)), (0, (7,))], 2, (1, 1))
        for hand in (2, 0, 3, 1):
            machine.pick(hand)
        self.assertEqual(machine.told(), [4, 5, 6, 7])
        self.assertEqual(machine.log(), [
            event for hand in (2, 0, 3, 1) for event in (("pick", hand), ("fetch", hand, 0), OVER)
        ])
        self.assertEqual(machine.counts(), (0, 4, 4))


class Refused(unittest.TestCase):
    def test_no_hand_leaves_the_machine_as_it_was(self):
        machine = Machine(made(STAIRS), [(0, (4, 5)), (0, (3, 2))], 3, (1, 1))
        for hand in (0, 1, 1):
            before = state(machine)
            for wrong in (-1, 2, 3, 100, True):
                refusal(NoHand, machine.pick, wrong)
                self.assertEqual(state(machine), before)
            machine.pick(hand)
        self.assertEqual(machine.pick(0), [3])

    def test_what_is_told_may_be_changed(self):
        machine = Machine(made(STAIRS), [(0, (4, 5)), (0, (3, 2))], 3, (1, 1))
        machine.pick(0).append(5)
        machine.pick(1).clear()
        before = copy.deepcopy(state(machine))
        machine.told()[0] = 4
        machine.boxes().clear()
        machine.log().append(("pick", 1))
        machine.log()[0] = ("rest",)
        self.assertEqual(state(machine), before)
        self.assertEqual(state(machine), before)

    def test_what_was_handed_in_is_neither_changed_nor_kept(self):
        hands = [(0, (2, 5)), (0, (1, 100))]
        machine = Machine(made(STAIRS), hands, 3, (1, 1))
        machine.pick(0)
        self.assertEqual(hands, [(0, (2, 5)), (0, (1, 100))])
        hands[0] = (0, (0, 0))
        hands.pop()
        said = [machine.pick(hand) for hand in (1, 0, 1, 0, 1, 0, 1, 0, 0)]
        self.assertEqual(said, [[1], [1], [], [], [100], [5], [], [10], []])
        self.assertEqual(machine.told(), [10, 100])

    def test_machines_beside_each_other_do_not_touch(self):
        code = made(STAIRS)
        hands = [(0, (2, 5)), (0, (1, 100))]
        order = (1, 0, 0, 1, 0, 1, 0, 1, 0, 0)
        alone = Machine(code, hands, 2, (1, 1))
        states = [(alone.pick(hand), state(alone)) for hand in order]
        one = Machine(code, hands, 2, (1, 1))
        other = Machine(code, hands, 3, (2, 1))
        for hand, (said, behind) in zip(order, states):
            other.pick(1 - hand)
            self.assertEqual((one.pick(hand), state(one)), (said, behind))
            other.pick(hand)


# 199 calls of 200 rows and one each, and a back behind the last one: 40,000 rows.
LEAF = (0, (("num", 4, 1),) * 199)
ROWS_40000 = (("call", 1),) * 199


class TooLong(unittest.TestCase):
    def machine(self, rows, hands=((0, ()),)):
        code = ((0, rows), LEAF, (0, ()), (0, (("rest",),)))
        return Machine(code, list(hands), 3, (1, 1))

    def test_40000_rows(self):
        machine = self.machine(ROWS_40000)
        machine.pick(0)
        self.assertEqual(machine.told(), [0])
        self.assertEqual(machine.log(), [("pick", 0), ("fetch", 0, 0)] + [CALL, BACK] * 199 + [OVER])
        self.assertEqual(machine.pick(0), [])

    def test_a_back_behind_the_last_one_is_one_more(self):
        machine = self.machine((("num", 4, 1),) + ROWS_40000)
        refusal(Long, machine.pick, 0)
        self.assertEqual(machine.log(), [("pick", 0), ("fetch", 0, 0)] + [CALL, BACK] * 199)

    def test_a_back_that_is_a_row_is_no_more_than_one(self):
        machine = self.machine(ROWS_40000 + (("back",),))
        machine.pick(0)
        self.assertEqual((machine.told(), machine.log()[-1]), ([0], OVER))

    def test_rows_of_all_hands_and_picks_count(self):
        machine = self.machine(ROWS_40000, [(0, ()), (2, ())])
        machine.pick(0)
        log = machine.log()
        refusal(Long, machine.pick, 1)
        self.assertEqual(machine.log(), log + [("pick", 1), ("fetch", 1, 0)])
        machine = self.machine(ROWS_40000, [(0, ()), (2, ())])
        machine.pick(1)
        refusal(Long, machine.pick, 0)
        self.assertEqual(machine.log()[-2:], [CALL, BACK])

    def test_a_rest_is_a_row(self):
        machine = self.machine(ROWS_40000 + (("rest",),))
        machine.pick(0)
        log = machine.log()
        self.assertEqual(log[-2:], [BACK, REST])
        refusal(Long, machine.pick, 0)
        self.assertEqual(machine.log(), log + [("pick", 0)])
        machine = self.machine(ROWS_40000, [(0, ()), (3, ())])
        machine.pick(1)
        refusal(Long, machine.pick, 0)
        self.assertEqual(machine.log()[:5], [
            ("pick", 1), ("fetch", 1, 0), REST, ("spill", 1, 0), ("pick", 0),
        ])

    def test_skipped_rows_do_not_count(self):
        skipping = (0, (("skip", 5, 1), ("rest",)) + (("num", 4, 1),) * 198)
        code = ((0, (("call", 2),) + ROWS_40000[1:]), LEAF, skipping)
        machine = Machine(code, [(0, ())], 3, (1, 1))
        machine.pick(0)
        self.assertEqual(machine.told(), [0])

    def test_within_sixty_others_and_one_more(self):
        for many, rule in ((2, (1, 1)), (5, (2, 3)), (8, (7, 7))):
            machine = Machine(Depths.code, [(0, (60,))], many, rule)
            machine.pick(0)
            # The last one called is within sixty others, and has 0; behind its last row it goes back.
            self.assertEqual((machine.told(), machine.log().count(CALL)), ([60], 60))
            log = machine.log()
            machine = Machine(Depths.code, [(0, (61,))], many, rule)
            refusal(Long, machine.pick, 0)
            self.assertEqual(machine.log(), log[:log.index(BACK)])
            self.assertEqual(machine.log()[-1], CALL)

    def test_hands_are_not_within_each_other(self):
        machine = Machine(made(STAIRS), [(0, (40, 1)), (0, (40, 1))], 2, (1, 1))
        for turn in range(40):
            machine.pick(0)
            machine.pick(1)
        self.assertEqual(machine.inside(), (1, 39, 39))
