import unittest

from slideboxes.errors import BadProgram
from slideboxes.making import made
from slideboxes.notes import written
from slideboxes.plain import run, traced
from tests.helper import ALL_KINDS, refusal

# Ahead of the row that is tried: a program in which functions 0 to 3 have as many arguments as their number.
BEFORE = ((0, ()), (1, ()), (2, (("rest",), ("say", 0))), (3, ()))


def with_row(row, behind=0):
    """A program in which that row is row 1 of function 4."""
    rows = (("rest",), row) + (("rest",),) * behind
    return BEFORE + ((0, rows), (0, ()))


class BadPrograms(unittest.TestCase):
    def bad(self, program, function, row):
        for asked, arguments in ((run, ([(0, ())], [])), (traced, ([(0, ())], [])), (made, ()), (written, ())):
            refused = refusal(BadProgram, asked, program, *arguments)
            self.assertEqual((refused.function, refused.row), (function, row), program)

    def good(self, program):
        run(program, [(0, (0,) * program[0][0])], [])
        made(program)
        written(program)

    def test_none_and_nine(self):
        self.bad((), 0, -1)
        self.good(((0, ()),) * 1)
        self.good(((0, ()),) * 8)
        self.bad(((0, ()),) * 9, 8, -1)
        self.bad(((0, ()),) * 10, 8, -1)

    def test_no_tuple_of_functions(self):
        for program in ("", "fun", 0, 5, "((0, ()),)"):
            self.bad(program, 0, -1)

    def test_functions_as_such(self):
        bad = (
            (), (0,), (0, (), ()), 3, "ab", "", ((), 0), (4, ()), (-1, ()), ("0", ()), ((), ()), (True, ()),
            (0, 5), (0, "rest"), (0, ""), (0, (("rest",),) * 31), (0, (("rest",),) * 31, 0),
        )
        for function in bad:
            self.bad((function,), 0, -1)
            self.bad(((0, ()), (1, ()), function, (0, ())), 2, -1)
        for function in ((0, ()), (3, ()), (0, (("rest",),) * 30)):
            self.good((function,))

    def test_functions_as_such_come_ahead_of_all_rows(self):
        wrong = (0, (("no",),))
        self.bad((wrong, (0, ()), (4, ())), 2, -1)
        self.bad((wrong,) * 9, 8, -1)
        self.bad((wrong, (4, ())) + ((0, ()),) * 7, 1, -1)
        self.bad(((0, (("no",),) * 31), (4, ())), 0, -1)
        self.bad((wrong, (0, (("rest",),) * 31)), 1, -1)

    def test_the_first_row_is_told(self):
        self.bad(((0, (("rest",), ("no",), ("no",))), (0, (("no",),))), 0, 1)
        self.bad(((0, (("rest",),)), (0, (("rest",), ("rest",), ("no",))), (0, (("no",),))), 1, 2)
        self.bad(((0, (("rest",),) * 29 + (("no",),)),), 0, 29)

    def test_all_kinds_are_rows(self):
        self.good(ALL_KINDS)

    def row_bad(self, row, behind=0):
        self.bad(with_row(row, behind), 4, 1)

    def row_good(self, row, behind=0):
        self.good(with_row(row, behind))

    def test_words(self):
        for row in (
            (), "rest", 0, "", ("Rest",), ("rest ",), ("",), (0,), ((),), (("rest",),), ("copy", 0, 1), ("back",),
            ("nums", 0, 0), (0, "num", 0), ("call", 0), ("tell0",), ("minus", 0, 0, 0),
        ):
            self.row_bad(row)

    def test_lengths(self):
        for row in (
            ("num", 0, 0), ("plus", 0, 0, 0), ("less", 0, 0, 0), ("times", 0, 0, 0), ("call", 0, 0, ()),
            ("skip", 0, 0), ("say", 0), ("rest",), ("tell", 0),
        ):
            self.row_good(row)
            self.row_bad(row + (0,))
            self.row_bad(row + ((),))
            if len(row) > 1:
                self.row_bad(row[:-1])

    def test_boxes(self):
        rows = (
            lambda box: ("num", box, 1), lambda box: ("plus", box, 0, 1), lambda box: ("plus", 0, box, 1),
            lambda box: ("plus", 0, 1, box), lambda box: ("less", box, 0, 1), lambda box: ("less", 0, box, 1),
            lambda box: ("less", 0, 1, box), lambda box: ("times", box, 0, 1), lambda box: ("times", 0, box, 1),
            lambda box: ("times", 0, 1, box), lambda box: ("call", box, 0, ()), lambda box: ("call", 0, 1, (box,)),
            lambda box: ("call", 0, 3, (0, 1, box)), lambda box: ("call", 0, 2, (box, 0)),
            lambda box: ("skip", box, 0), lambda box: ("say", box), lambda box: ("tell", box),
        )
        for row in rows:
            for box in (0, 7):
                self.row_good(row(box))
            for box in (-1, 8, 1000, "0", "", (), (0,), True, False):
                self.row_bad(row(box))

    def test_numbers(self):
        for number in (0, 1, 999):
            self.row_good(("num", 7, number))
        for number in (-1, 1000, "5", (), True):
            self.row_bad(("num", 7, number))

    def test_counts_of_skips(self):
        for behind in (0, 1, 5, 28):
            for count in range(behind + 1):
                self.row_good(("skip", 0, count), behind)
            for count in (-1, behind + 1, behind + 2, "0", (), True):
                self.row_bad(("skip", 0, count), behind)

    def test_functions_of_calls(self):
        for function in range(4):
            self.row_good(("call", 7, function, (7,) * function))
        self.row_good(("call", 7, 4, ()))
        self.row_good(("call", 7, 5, ()))
        for function in (-1, 6, 7, 8, "0", (), True):
            self.row_bad(("call", 7, function, ()))

    def test_boxes_of_calls(self):
        for function in range(4):
            for many in range(6):
                if many == function:
                    self.row_good(("call", 7, function, (7,) * many))
                else:
                    self.row_bad(("call", 7, function, (7,) * many))
        for boxes in ("", "0", 0, (("0"),)):
            self.row_bad(("call", 7, 1, boxes))
        self.row_bad(("call", 7, 0, ""))
