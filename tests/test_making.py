import unittest

from slideboxes.errors import BadCode, BadProgram, NotMade
from slideboxes.making import made, unmade
from tests.helper import ALL_KINDS, FACTORS, RABBITS, SAMPLES, STAIRS, random_samples, refusal

LAST = (("num", 0, 0), ("back",))


def made_rows(many, *rows):
    """The rows of the code of one function, less its last two; functions 1 to 4 have none to three arguments."""
    program = ((many, rows), (0, ()), (1, ()), (2, ()), (3, ()))
    code = made(program)
    assert code[0][0] == many and code[0][1][-2:] == LAST
    return list(code[0][1][:-2])


class Made(unittest.TestCase):
    def test_no_rows(self):
        self.assertEqual(made(((0, ()), (3, ()))), ((0, LAST), (3, LAST)))

    def test_places_of_boxes(self):
        for many in range(4):
            for box in range(8):
                place = box if box < many else box + 4
                first = [] if box < many else [("num", place, 0)]
                self.assertEqual(made_rows(many, ("say", box)), first + [("say", place)])
                self.assertEqual(made_rows(many, ("num", box, 999)), first + [("num", place, 999)])
                self.assertEqual(made_rows(many, ("skip", box, 0)), first + [("skip", place, 0)])
                self.assertEqual(made_rows(many, ("tell", box)), first + [("copy", 0, place), ("back",)])

    def test_plus_less_times(self):
        for word in ("plus", "less", "times"):
            self.assertEqual(
                made_rows(2, (word, 7, 1, 2)),
                [("num", 6, 0), ("num", 11, 0), (word, 11, 1, 6)],
            )

    def test_rest(self):
        self.assertEqual(made_rows(1, ("rest",), ("rest",)), [("rest",), ("rest",)])

    def test_calls(self):
        self.assertEqual(made_rows(1, ("call", 0, 1, ())), [("call", 1), ("copy", 0, 12)])
        self.assertEqual(
            made_rows(1, ("call", 2, 2, (0,))),
            [("num", 6, 0), ("copy", 12, 0), ("call", 2), ("copy", 6, 12)],
        )
        self.assertEqual(
            made_rows(1, ("call", 2, 3, (7, 0))),
            [("num", 6, 0), ("num", 11, 0), ("copy", 12, 11), ("copy", 13, 0), ("call", 3), ("copy", 6, 12)],
        )
        self.assertEqual(
            made_rows(1, ("call", 0, 4, (5, 5, 0))),
            [("num", 9, 0), ("copy", 12, 9), ("copy", 13, 9), ("copy", 14, 0), ("call", 4), ("copy", 0, 12)],
        )

    def test_first_rows_rise_and_stand_once(self):
        rows = made_rows(1, ("say", 7), ("plus", 3, 0, 7), ("call", 5, 2, (2,)), ("skip", 4, 0), ("tell", 6))
        firsts = [("num", place, 0) for place in (6, 7, 8, 9, 10, 11)]
        self.assertEqual(rows[:7], firsts + [("say", 11)])

    def test_numbers_and_functions_are_no_boxes(self):
        self.assertEqual(made_rows(0, ("num", 1, 3)), [("num", 5, 0), ("num", 5, 3)])
        self.assertEqual(made_rows(0, ("skip", 1, 2), ("rest",), ("rest",))[0], ("num", 5, 0))
        self.assertEqual(made_rows(0, ("call", 0, 1, ()))[:2], [("num", 4, 0), ("call", 1)])

    def test_counts_of_skips(self):
        rows = (("call", 0, 4, (0, 0, 0)), ("tell", 0), ("rest",), ("call", 0, 1, ()), ("skip", 0, 0))
        for many, count in enumerate((0, 5, 7, 8, 10, 11)):
            self.assertEqual(made_rows(1, ("skip", 0, many), *rows)[0], ("skip", 0, count))

    def test_a_skip_over_skips(self):
        rows = made_rows(1, ("skip", 0, 2), ("skip", 0, 1), ("tell", 0), ("rest",))
        self.assertEqual(
            rows, [("skip", 0, 3), ("skip", 0, 2), ("copy", 0, 0), ("back",), ("rest",)],
        )

    def test_a_whole_program(self):
        self.assertEqual(made(FACTORS), ((1, (
            ("num", 5, 0), ("num", 6, 0), ("num", 7, 0),
            ("num", 5, 1),
            ("skip", 0, 5),
            ("less", 6, 0, 5),
            ("copy", 12, 6), ("call", 0), ("copy", 7, 12),
            ("times", 5, 0, 7),
            ("copy", 0, 5), ("back",),
            ("num", 0, 0), ("back",),
        )),))

    def test_bad_program(self):
        refused = refusal(BadProgram, made, ((0, (("rest",), ("no",))),))
        self.assertEqual((refused.function, refused.row), (0, 1))

    def test_asked_again_the_same_is_told(self):
        self.assertEqual(made(STAIRS), made(STAIRS))


class Unmade(unittest.TestCase):
    def test_unmade_of_made(self):
        for program in (FACTORS, RABBITS, STAIRS, ALL_KINDS, ((0, ()),), ((3, ()),) * 8):
            self.assertEqual(unmade(made(program)), program)

    def test_unmade_of_made_of_many(self):
        for program, hands, order in random_samples(1, 300):
            self.assertEqual(unmade(made(program)), program)

    def test_nums_of_0_are_told_from_first_rows(self):
        for many in range(4):
            for rows in (
                (("num", 0, 0),),
                (("num", 0, 0), ("num", 1, 0), ("num", 2, 0), ("num", 7, 0)),
                (("num", 7, 0), ("num", 7, 0), ("num", 4, 0)),
                (("num", 4, 0), ("num", 5, 0), ("num", 4, 0), ("num", 6, 0), ("say", 3)),
                (("num", 0, 0), ("num", 0, 0), ("tell", 0)),
            ):
                program = ((many, rows),)
                self.assertEqual(unmade(made(program)), program)

    def test_skips_to_every_row(self):
        rows = (("call", 7, 0, (7, 0, 1)), ("tell", 0), ("rest",), ("call", 0, 1, ()), ("skip", 5, 0), ("say", 1))
        for count in range(7):
            program = ((3, (("skip", 3, count),) + rows), (0, ()))
            self.assertEqual(unmade(made(program)), program)

    def test_30_rows_and_one_more(self):
        program = ((1, (("say", 0),) * 30),)
        self.assertEqual(unmade(made(program)), program)
        refusal(NotMade, unmade, ((1, (("say", 0),) * 31 + LAST),))

    def refused(self, *rows, many=1):
        refusal(NotMade, unmade, ((many, tuple(rows)), (0, LAST), (1, LAST), (2, LAST)))

    def test_codes_that_are_not_made(self):
        self.refused()
        self.refused(("back",))
        self.refused(("num", 0, 0))
        self.refused(("back",), ("num", 0, 0))
        self.refused(("back",), *LAST)
        self.refused(("num", 0, 1), ("back",))
        self.refused(("num", 1, 0), ("back",), many=2)
        self.refused(("num", 5, 0), *LAST)
        self.refused(("say", 5), *LAST)
        self.refused(("num", 5, 1), ("say", 5), *LAST)
        self.refused(("num", 6, 0), ("num", 5, 0), ("say", 5), ("say", 6), *LAST)

    def test_places_that_no_box_has(self):
        for many in range(4):
            for place in range(16):
                rows = (("say", place),) + LAST
                if 4 <= place < 12:
                    rows = (("num", place, 0),) + rows
                if place < many or many + 4 <= place < 12:
                    self.assertEqual(made(unmade(((many, rows),))), ((many, rows),))
                else:
                    self.refused(*rows, many=many)

    def test_calls_that_are_not_made(self):
        self.refused(("call", 1), *LAST)
        self.refused(("call", 1), ("copy", 0, 13), *LAST)
        self.refused(("call", 1), ("copy", 0, 0), *LAST)
        self.refused(("call", 1), ("say", 0), ("copy", 0, 12), *LAST)
        self.refused(("copy", 12, 0), ("call", 1), ("copy", 0, 12), *LAST)
        self.refused(("call", 2), ("copy", 0, 12), *LAST)
        self.refused(("copy", 13, 0), ("call", 2), ("copy", 0, 12), *LAST)
        self.refused(("copy", 13, 0), ("copy", 12, 0), ("call", 3), ("copy", 0, 12), *LAST)
        self.refused(("copy", 12, 0), ("copy", 12, 0), ("call", 3), ("copy", 0, 12), *LAST)
        self.refused(("copy", 12, 0), ("call", 2), ("copy", 12, 0), *LAST)
        self.refused(("copy", 12, 0), ("call", 2), ("copy", 12, 12), *LAST)
        self.refused(("copy", 12, 12), ("call", 2), ("copy", 0, 12), *LAST)
        self.refused(("copy", 12, 0), ("call", 2))
        self.refused(("call", 1), *LAST[1:])

    def test_tells_that_are_not_made(self):
        self.refused(("copy", 0, 0), *LAST)
        self.refused(("copy", 1, 0), ("back",), *LAST, many=2)
        self.refused(("copy", 0, 12), ("back",), *LAST)
        self.refused(("copy", 0, 0), ("copy", 0, 0), ("back",), *LAST)
        self.refused(("copy", 0, 0), ("rest",), ("back",), *LAST)
        self.refused(("copy", 0, 0), ("back",))

    def test_skips_that_are_not_made(self):
        rows = (("copy", 12, 0), ("call", 2), ("copy", 0, 12), ("copy", 0, 0), ("back",)) + LAST
        for count in range(8):
            if count in (0, 3, 5):
                code = ((1, (("skip", 0, count),) + rows), (0, LAST), (1, LAST), (2, LAST))
                self.assertEqual(made(unmade(code)), code)
            else:
                self.refused(("skip", 0, count), *rows)

    def test_a_row_changed_left_out_doubled_or_moved(self):
        """Whatever is told of a code near a made one, the code is made of it."""
        refusals = 0
        for code in near(made(STAIRS)):
            try:
                self.assertEqual(made(unmade(code)), code)
            except NotMade:
                refusals += 1
            except BadCode:
                self.assertIn("skip", [row[0] for many, rows in code for row in rows])
        self.assertGreater(refusals, 400)

    def test_each_row_of_a_made_code_counts(self):
        # The rows are numbered as in test_a_whole_program. Those that are left make a code of another program.
        many, rows = made(FACTORS)[0]
        for at in range(len(rows)):
            code = ((many, rows[:at] + rows[at + 1:]),)
            if at in (3, 4):
                self.assertEqual(made(unmade(code)), code)
            else:
                refusal(NotMade, unmade, code)
            code = ((many, rows[:at + 1] + rows[at:]),)
            if at in (2, 3, 4, 5, 9, 12):
                self.assertEqual(made(unmade(code)), code)
            else:
                refusal(NotMade, unmade, code)
        refusal(NotMade, unmade, ((many + 1, rows),))


OTHERS = (("rest",), ("say", 0), ("copy", 0, 12), ("copy", 12, 4), ("num", 4, 0), ("back",), ("call", 3))


def near_rows(rows):
    for at, row in enumerate(rows):
        before, behind = rows[:at], rows[at + 1:]
        yield before + behind
        yield before + (row, row) + behind
        yield before + behind + (row,)
        for other in OTHERS:
            yield before + (other,) + behind
        for to in range(at):
            yield rows[:to] + (row,) + rows[to:at] + behind


def near(code):
    """Codes that differ from this one in a row that is changed, left out, doubled or moved."""
    for function, (many, rows) in enumerate(code):
        for others in near_rows(rows):
            yield code[:function] + ((many, others),) + code[function + 1:]


class Samples(unittest.TestCase):
    def test_samples(self):
        for program, hands, order in SAMPLES:
            self.assertEqual(unmade(made(program)), program)
