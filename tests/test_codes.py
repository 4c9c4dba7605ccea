import unittest

from slideboxes.errors import BadCode
from slideboxes.machine import Machine, slid
from slideboxes.making import made, unmade
from tests.helper import ALL_KINDS, STAIRS, refusal

BEFORE = ((0, ()), (1, ()), (2, (("rest",), ("say", 15))), (3, ()))


def with_row(row, behind=0):
    """A code in which that row is row 1 of function 4."""
    rows = (("rest",), row) + (("rest",),) * behind
    return BEFORE + ((0, rows), (0, ()))


class BadCodes(unittest.TestCase):
    def bad(self, code, function, row):
        for asked, arguments in (
            (unmade, ()), (Machine, ([], 0, ())), (slid, ([], [9], 0, ())),
        ):
            refused = refusal(BadCode, asked, code, *arguments)
            self.assertEqual((refused.function, refused.row), (function, row), code)

    def good(self, code):
        Machine(code, [(0, (0,) * code[0][0])], 2, (1, 1))

    def row_bad(self, row, behind=0):
        self.bad(with_row(row, behind), 4, 1)

    def row_good(self, row, behind=0):
        self.good(with_row(row, behind))

    def test_none_and_nine(self):
        self.bad((), 0, -1)
        self.good(((0, ()),))
        self.good(((0, ()),) * 8)
        self.bad(((0, ()),) * 9, 8, -1)
        self.bad("code", 0, -1)
        self.bad(7, 0, -1)

    def test_functions_as_such(self):
        for function in (
            (), (0,), (0, (), ()), 3, "ab", (4, ()), (-1, ()), ("0", ()), ((), ()), (True, ()),
            (0, 5), (0, "rest"), (0, (("rest",),) * 201),
        ):
            self.bad((function,), 0, -1)
            self.bad(((0, ()), (1, ()), function, (0, ())), 2, -1)
        for function in ((0, ()), (3, ()), (0, (("rest",),) * 31), (0, (("rest",),) * 200)):
            self.good((function,))

    def test_functions_as_such_come_ahead_of_all_rows(self):
        wrong = (0, (("no",),))
        self.bad((wrong, (0, ()), (4, ())), 2, -1)
        self.bad((wrong,) * 9, 8, -1)
        self.bad((wrong, (4, ())) + ((0, ()),) * 7, 1, -1)

    def test_the_first_row_is_told(self):
        self.bad(((0, (("rest",), ("no",), ("no",))), (0, (("no",),))), 0, 1)
        self.bad(((0, (("rest",),)), (0, (("rest",), ("rest",), ("no",))), (0, (("no",),))), 1, 2)
        self.bad(((0, (("rest",),) * 199 + (("no",),)),), 0, 199)

    def test_words(self):
        for row in (
            (), "rest", 0, "", ("Rest",), ("",), (0,), ((),), (("rest",),), ("tell", 0), ("call", 0, 0, ()),
            ("nums", 0, 0), (0, "num", 0), ("backs",),
        ):
            self.row_bad(row)

    def test_lengths(self):
        for row in (
            ("num", 0, 0), ("copy", 0, 0), ("plus", 0, 0, 0), ("less", 0, 0, 0), ("times", 0, 0, 0), ("call", 0),
            ("skip", 0, 0), ("say", 0), ("rest",), ("back",),
        ):
            self.row_good(row)
            self.row_bad(row + (0,))
            self.row_bad(row + ((),))
            if len(row) > 1:
                self.row_bad(row[:-1])

    def test_boxes(self):
        rows = [lambda box: ("num", box, 1), lambda box: ("copy", box, 1), lambda box: ("copy", 1, box)]
        rows += [lambda box: ("skip", box, 0), lambda box: ("say", box)]
        for word in ("plus", "less", "times"):
            rows += [
                lambda box, word=word: (word, box, 0, 1),
                lambda box, word=word: (word, 0, box, 1),
                lambda box, word=word: (word, 0, 1, box),
            ]
        for row in rows:
            for box in (0, 3, 4, 11, 12, 15):
                self.row_good(row(box))
            for box in (-1, 16, 1000, "0", (), (0,), True):
                self.row_bad(row(box))

    def test_numbers(self):
        for number in (0, 999):
            self.row_good(("num", 15, number))
        for number in (-1, 1000, "5", (), True):
            self.row_bad(("num", 15, number))

    def test_counts_of_skips(self):
        for behind in (0, 1, 5, 198):
            for count in (0, behind // 2, behind):
                self.row_good(("skip", 0, count), behind)
            for count in (-1, behind + 1, behind + 2, "0", (), True):
                self.row_bad(("skip", 0, count), behind)

    def test_functions_of_calls(self):
        for function in range(6):
            self.row_good(("call", function))
        for function in (-1, 6, 8, "0", (), True):
            self.row_bad(("call", function))

    def test_what_is_made_is_a_code(self):
        self.good(made(ALL_KINDS))
        self.good(made(STAIRS))
        self.good(made(((3, (("call", 7, 0, (4, 5, 6)),) * 30),)))
