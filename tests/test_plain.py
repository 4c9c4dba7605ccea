import copy
import unittest

from slideboxes.errors import BadHands, BadOrder, BadProgram, Long
from slideboxes.plain import run, traced
from tests.helper import ALL_KINDS, FACTORS, RABBITS, STAIRS, refusal


def ended(rows, arguments=(), others=()):
    """What a function of these rows tells."""
    program = ((len(arguments), tuple(rows)),) + tuple(others)
    told, said = run(program, [(0, tuple(arguments))], [0])
    return told[0]


def spoken(rows, arguments=(), others=()):
    program = ((len(arguments), tuple(rows)),) + tuple(others)
    return [number for hand, number in run(program, [(0, tuple(arguments))], [0])[1]]


class Rows(unittest.TestCase):
    def test_num(self):
        self.assertEqual(ended([("num", 3, 999), ("tell", 3)]), 999)
        self.assertEqual(ended([("num", 0, 0), ("tell", 0)], (5,)), 0)

    def test_plus_less_times_by_the_rest_by_1000(self):
        for word, left, right, result in (
            ("plus", 3, 4, 7), ("plus", 999, 1, 0), ("plus", 999, 999, 998), ("plus", 500, 499, 999),
            ("less", 7, 4, 3), ("less", 4, 7, 997), ("less", 0, 1, 999), ("less", 0, 999, 1), ("less", 5, 5, 0),
            ("times", 30, 40, 200), ("times", 999, 999, 1), ("times", 9, 111, 999), ("times", 0, 999, 0),
        ):
            self.assertEqual(ended([(word, 2, 0, 1), ("tell", 2)], (left, right)), result, (word, left, right))

    def test_a_box_may_be_its_own_source(self):
        self.assertEqual(ended([("plus", 0, 0, 0), ("times", 0, 0, 0), ("less", 1, 1, 0), ("tell", 1)], (3, 1)), 965)

    def test_arguments_lie_in_the_first_boxes_and_0_in_the_others(self):
        rows = [("say", box) for box in range(8)]
        self.assertEqual(spoken(rows), [0] * 8)
        self.assertEqual(spoken(rows, (5, 6, 7)), [5, 6, 7, 0, 0, 0, 0, 0])

    def test_skip(self):
        rows = [("skip", 0, 2), ("say", 1), ("say", 2), ("say", 3)]
        self.assertEqual(spoken([("num", 1, 1), ("num", 2, 2), ("num", 3, 3)] + rows), [3])
        self.assertEqual(spoken([("num", 3, 3)] + rows, (1, 2)), [2, 0, 3])

    def test_skip_of_0_passes_nothing(self):
        self.assertEqual(ended([("skip", 0, 0), ("num", 0, 4), ("tell", 0)]), 4)
        self.assertEqual(ended([("skip", 0, 0)]), 0)

    def test_skip_over_calls_and_tells(self):
        other = (0, (("num", 0, 9), ("say", 0), ("tell", 0)))
        rows = [("skip", 1, 2), ("call", 2, 1, ()), ("tell", 2), ("num", 2, 8), ("tell", 2)]
        self.assertEqual((ended(rows, (0, 0), [other]), spoken(rows, (0, 0), [other])), (8, []))
        self.assertEqual((ended(rows, (0, 1), [other]), spoken(rows, (0, 1), [other])), (9, [9]))

    def test_skip_to_the_very_end(self):
        self.assertEqual(ended([("num", 0, 4), ("skip", 1, 2), ("say", 0), ("tell", 0)]), 0)

    def test_tell_ends_the_call(self):
        self.assertEqual(spoken([("say", 0), ("tell", 0), ("say", 0)], (4,)), [4])

    def test_behind_its_last_row_0_is_told(self):
        self.assertEqual(ended([]), 0)
        self.assertEqual(ended([("num", 0, 5)]), 0)
        other = (0, (("num", 0, 5),))
        self.assertEqual(ended([("num", 3, 7), ("call", 3, 1, ()), ("plus", 3, 3, 3), ("tell", 3)], (), [other]), 0)

    def test_calls_with_none_to_three_boxes(self):
        others = (
            (0, (("num", 7, 6), ("tell", 7))),
            (1, (("say", 0), ("say", 1), ("tell", 0))),
            (2, (("say", 0), ("say", 1), ("say", 2), ("tell", 1))),
            (3, (("say", 0), ("say", 1), ("say", 2), ("say", 3), ("tell", 2))),
        )
        setting = [("num", 4, 40), ("num", 5, 50), ("num", 6, 60)]
        for many, said in ((0, [6]), (1, [60, 0, 60]), (2, [60, 40, 0, 40]), (3, [60, 40, 60, 0, 60])):
            rows = setting + [("call", 1, many + 1, (6, 4, 6)[:many]), ("say", 1)]
            self.assertEqual(spoken(rows, (), others), said)

    def test_a_call_has_boxes_of_its_own(self):
        other = (1, tuple(("num", box, 90 + box) for box in range(8)))
        rows = [("num", box, box) for box in range(8)] + [("call", 5, 1, (3,))] + [("say", box) for box in range(8)]
        self.assertEqual(spoken(rows, (), [other]), [0, 1, 2, 3, 4, 0, 6, 7])

    def test_boxes_are_0_at_each_call(self):
        other = (0, (("say", 4), ("num", 4, 9), ("tell", 4)))
        rows = [("num", 4, 3), ("call", 0, 1, ()), ("call", 0, 1, ()), ("say", 4), ("say", 0)]
        self.assertEqual(spoken(rows, (), [other]), [0, 0, 3, 9])

    def test_functions_that_call_themselves(self):
        told, said = run(FACTORS, [(0, (0,)), (0, (5,)), (0, (7,))], [0, 1, 2])
        self.assertEqual((told, said), ([1, 120, 40], []))
        told, said = run(RABBITS, [(0, (number,)) for number in (0, 1, 2, 7)], [0, 1, 2, 3])
        self.assertEqual((told, said), ([0, 1, 1, 13], []))


class Runs(unittest.TestCase):
    hands = [(0, (2, 5)), (0, (1, 100))]
    order = [1, 0, 1, 0, 1, 0, 0, 1, 0, 1, 0, 0]

    def test_none_picked(self):
        self.assertEqual(run(STAIRS, self.hands, []), ([None, None], []))
        self.assertEqual(traced(STAIRS, self.hands, []), [])

    def test_kinds_of_what_is_told(self):
        told = run(STAIRS, self.hands, [0])
        self.assertEqual((type(told), [type(part) for part in told]), (tuple, [list, list]))
        self.assertEqual(type(traced(STAIRS, self.hands, [0])), list)

    def test_hands_in_turn(self):
        # Hand 1: says 1, rests; at 0 rests; then 100, rests; is over. Hand 0: 2; 1; at 0; 5; 10; is over.
        said = [(1, 1), (0, 2), (0, 1), (1, 100), (0, 5), (0, 10)]
        self.assertEqual(run(STAIRS, self.hands, self.order), ([10, 100], said))

    def test_a_pick_goes_behind_the_next_rest_only(self):
        for many, told, said in (
            (1, None, [(0, 2)]), (2, None, [(0, 2), (0, 1)]), (3, None, [(0, 2), (0, 1)]),
            (4, None, [(0, 2), (0, 1), (0, 5)]), (5, None, [(0, 2), (0, 1), (0, 5), (0, 10)]),
            (6, 10, [(0, 2), (0, 1), (0, 5), (0, 10)]), (9, 10, [(0, 2), (0, 1), (0, 5), (0, 10)]),
        ):
            self.assertEqual(run(STAIRS, self.hands, [0] * many), ([told, None], said))

    def test_a_rest_in_the_last_row_is_not_the_end(self):
        program = ((0, (("rest",),)),)
        self.assertEqual(run(program, [(0, ())], [0]), ([None], []))
        self.assertEqual(run(program, [(0, ())], [0, 0]), ([0], []))

    def test_events(self):
        pick = [("pick", 0), ("pick", 1)]
        call, back, rest, over = ("call",), ("back",), ("rest",), ("over",)
        self.assertEqual(traced(STAIRS, self.hands, self.order), [
            pick[1], rest,
            pick[0], rest,
            pick[1], call, rest,
            pick[0], call, rest,
            pick[1], back, rest,
            pick[0], call, rest,
            pick[0], back, rest,
            pick[1], over,
            pick[0], back, rest,
            pick[0], over,
        ])

    def test_events_of_calls_without_a_tell(self):
        program = ((0, (("call", 0, 1, ()), ("call", 0, 1, ()))), (0, ()))
        self.assertEqual(traced(program, [(0, ()), (1, ())], [1, 0, 1, 0]), [
            ("pick", 1), ("over",), ("pick", 0), ("call",), ("back",), ("call",), ("back",), ("over",),
        ])

    def test_asked_again_the_same_is_told_and_nothing_is_changed(self):
        hands, order = copy.deepcopy((self.hands, self.order))
        first = run(STAIRS, hands, order)
        first[0].append(1)
        first[1].clear()
        traced(STAIRS, hands, order).clear()
        self.assertEqual((hands, order), (self.hands, self.order))
        self.assertEqual(run(STAIRS, hands, order)[0], [10, 100])
        self.assertEqual(traced(STAIRS, hands, order)[0], ("pick", 1))

    def test_all_kinds(self):
        # Function 1 tells 0, so that all is passed by up to the say: of (1 + 2 - 3) * 999 nothing is told.
        self.assertEqual(run(ALL_KINDS, [(0, (1, 2, 3))], [0]), ([None], [(0, 1)]))


# A call of function 2 takes 30 rows, one of function 1 takes 901; their ends are no rows.
LEAF = (0, (("num", 0, 1),) * 29)
BRANCH = (0, (("call", 0, 2, ()),) * 30)


def rows_2000(more):
    """A program whose function 0 does 2,000 rows, and so many more."""
    rows = (("call", 0, 1, ()),) * 2 + (("call", 0, 2, ()),) * 6 + (("num", 1, 1),) * (18 + more)
    return ((0, rows), BRANCH, LEAF, (0, (("num", 0, 1),)), (0, ()))


class TooLong(unittest.TestCase):
    def test_2000_rows_and_one_more(self):
        self.assertEqual(run(rows_2000(0), [(0, ())], [0]), ([0], []))
        self.assertEqual(traced(rows_2000(0), [(0, ())], [0])[-1], ("over",))
        for asked in (run, traced):
            refusal(Long, asked, rows_2000(1), [(0, ())], [0])

    def test_rows_of_all_hands_count(self):
        hands = [(0, ()), (3, ()), (4, ())]
        self.assertEqual(run(rows_2000(0), hands, [0, 2, 0, 0]), ([0, None, 0], []))
        refusal(Long, run, rows_2000(0), hands, [0, 1])
        refusal(Long, run, rows_2000(0), hands, [1, 0])
        self.assertEqual(run(rows_2000(-1), hands, [1, 0]), ([0, 0, None], []))

    def test_rows_that_are_not_done_do_not_count(self):
        program = rows_2000(-1)
        many, rows = program[0]
        skipping = ((many, rows[:8] + (("skip", 7, len(rows) - 8),) + rows[8:]),) + program[1:]
        self.assertEqual(run(skipping, [(0, ()), (3, ())], [0, 1]), ([0, 0], []))

    def test_rests_and_tells_are_rows(self):
        program = rows_2000(-1)
        many, rows = program[0]
        for last in (("rest",), ("tell", 0), ("skip", 0, 0), ("say", 0)):
            longer = ((many, rows + (last,)),) + program[1:]
            self.assertEqual(run(longer, [(0, ())], [0, 0])[0], [0])
            refusal(Long, run, longer, [(0, ()), (3, ())], [0, 1])

    def test_within_sixty_others_and_one_more(self):
        self.assertEqual(run(FACTORS, [(0, (60,))], [0]), ([0], []))
        self.assertEqual(traced(FACTORS, [(0, (60,))], [0]).count(("call",)), 60)
        for asked in (run, traced):
            refusal(Long, asked, FACTORS, [(0, (61,))], [0])

    def test_hands_are_not_within_each_other(self):
        hands = [(0, (40, 1)), (0, (40, 1))]
        self.assertEqual(run(STAIRS, hands, [0] * 41 + [1] * 41)[0], [None, None])

    def test_only_behind_all_else(self):
        for asked in (run, traced):
            refusal(BadProgram, asked, FACTORS + ((0, (("no",),)),), [(0, (61,))], [0])
            refusal(BadHands, asked, FACTORS, [(0, (61,)), (1, ())], [0])
            self.assertEqual(refusal(BadOrder, asked, FACTORS, [(0, (61,))], [0] * 5 + [1]).at, 5)
            self.assertEqual(refusal(BadOrder, asked, FACTORS, [(0, (61,))], [0] * 201).at, 200)
