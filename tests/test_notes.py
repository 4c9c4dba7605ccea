import random
import re
import unittest

from slideboxes.errors import BadText
from slideboxes.notes import read, written
from tests.helper import ALL_KINDS, FACTORS, RABBITS, SAMPLES, STAIRS, random_samples, refusal

NUMBER = "(0|[1-9][0-9]{0,2})"
ROW = re.compile(
    f"fun {NUMBER}|num {NUMBER} {NUMBER}|(plus|less|times) {NUMBER} {NUMBER} {NUMBER}|"
    f"call {NUMBER} {NUMBER}( {NUMBER}){{0,3}}|skip {NUMBER} {NUMBER}|(say|tell) {NUMBER}|rest"
)


def expected_row(text):
    """The row with which a text is refused, or None."""
    if text == "":
        return None
    for number, line in enumerate(text.split("\n")):
        if not ROW.fullmatch(line) or (number == 0 and not line.startswith("fun")):
            return number
    return None


def expected_program(text):
    program = ()
    for line in text.split("\n"):
        word, *numbers = line.split()
        numbers = tuple(int(number) for number in numbers)
        if word == "fun":
            program += ((numbers[0], ()),)
            continue
        row = (word, *numbers) if word != "call" else (word, *numbers[:2], numbers[2:])
        many, rows = program[-1]
        program = program[:-1] + ((many, rows + (row,)),)
    return program


class Written(unittest.TestCase):
    def test_each_kind_of_row(self):
        for row, line in (
            (("num", 7, 999), "num 7 999"), (("num", 0, 0), "num 0 0"), (("num", 1, 10), "num 1 10"),
            (("plus", 1, 2, 3), "plus 1 2 3"), (("less", 4, 5, 6), "less 4 5 6"), (("times", 7, 0, 7), "times 7 0 7"),
            (("call", 4, 0, ()), "call 4 0"), (("call", 4, 1, (5,)), "call 4 1 5"),
            (("call", 4, 2, (0, 3)), "call 4 2 0 3"), (("call", 1, 3, (7, 7, 0)), "call 1 3 7 7 0"),
            (("skip", 3, 0), "skip 3 0"), (("say", 6), "say 6"), (("rest",), "rest"), (("tell", 7), "tell 7"),
        ):
            program = ((0, (row,)), (1, ()), (2, ()), (3, ()))
            text = f"fun 0\n{line}\nfun 1\nfun 2\nfun 3"
            self.assertEqual(written(program), text)
            self.assertEqual(read(text), program)

    def test_whole_programs(self):
        self.assertEqual(written(((0, ()),)), "fun 0")
        self.assertEqual(written(FACTORS), "fun 1\nnum 1 1\nskip 0 3\nless 2 0 1\ncall 3 0 2\ntimes 1 0 3\ntell 1")
        self.assertEqual(
            written(((2, (("call", 4, 0, (0, 3)), ("skip", 4, 1), ("rest",))), (0, ()))),
            "fun 2\ncall 4 0 0 3\nskip 4 1\nrest\nfun 0",
        )

    def test_read_reads_the_same_program(self):
        programs = [FACTORS, RABBITS, STAIRS, ALL_KINDS]
        programs += [program for program, hands, order in list(SAMPLES) + random_samples(71, 300)]
        programs.append(((3, (("call", 7, 7, (7, 7, 7)),) * 30),) * 8)
        programs.append(((0, (("num", 7, 999),) * 30),) * 8)
        for program in programs:
            text = written(program)
            self.assertLessEqual(len(text), 4000)
            self.assertRegex(text, r"\A[a-z0-9 \n]+\Z")
            self.assertEqual(read(text), program)
            self.assertEqual(text, written(read(text)))
            self.assertEqual(expected_program(text), program)

    def test_kinds_of_what_is_told(self):
        self.assertIs(type(written(STAIRS)), str)
        program = read(written(STAIRS))
        self.assertIs(type(program), tuple)
        for function in program:
            self.assertEqual([type(part) for part in (function, *function)], [tuple, int, tuple])
            self.assertTrue(all(type(row) is tuple for row in function[1]))


class Read(unittest.TestCase):
    def bad(self, text, row):
        self.assertEqual(refusal(BadText, read, text).row, row, text)
        self.assertEqual(expected_row(text), row, text)

    def line_bad(self, line):
        if line:
            self.bad(line, 0)
        self.bad("fun 0\n" + line, 1)
        self.bad("fun 1\nrest\nfun 2\nsay 0\n" + line + "\nno", 4)

    def test_the_empty_text(self):
        self.assertEqual(read(""), ())

    def test_line_ends(self):
        self.bad("\n", 0)
        self.bad("\nfun 0", 0)
        self.bad("fun 0\n", 1)
        self.bad("fun 0\n\nrest", 1)
        self.bad("fun 0\nrest\n", 2)
        self.bad("fun 0\n\n", 1)
        self.bad(" ", 0)

    def test_words(self):
        for line in (
            "", " ", "no", "Rest", "REST", "rests", "res", "copy 0 1", "back", "0", "0 1", "fun", "funs 1", "fun1",
            "rest,", "rest;", "# rest", "num0 0", "minus 0 0 0", "~", "-", "def 0", "over", "pick 0", "boxes 0",
        ):
            self.line_bad(line)

    def test_counts_of_numbers(self):
        for word, counts in (
            ("fun", (1,)), ("num", (2,)), ("plus", (3,)), ("less", (3,)), ("times", (3,)), ("call", (2, 3, 4, 5)),
            ("skip", (2,)), ("say", (1,)), ("rest", (0,)), ("tell", (1,)),
        ):
            for count in range(8):
                line = " ".join([word] + ["7"] * count)
                if count in counts:
                    self.assertEqual(len(read("fun 0\n" + line)), 1 + (word == "fun"))
                else:
                    self.line_bad(line)

    def test_numbers(self):
        for number in (0, 1, 9, 10, 90, 99, 100, 101, 500, 999):
            self.assertEqual(read(f"fun {number}"), ((number, ()),))
            self.assertEqual(read(f"fun 3\nnum 1 {number}"), ((3, (("num", 1, number),)),))
            self.assertEqual(read(f"fun 3\ncall 1 0 {number}"), ((3, (("call", 1, 0, (number,)),)),))
        for number in (
            "00", "01", "000", "001", "010", "099", "1000", "0000", "1234", "-1", "+1", "1.0", "1_0", "a", "0x1", "1e1",
            "", "--", "1,", "(1)", "None", "True",
        ):
            self.line_bad(f"fun {number}")
            self.line_bad(f"num 1 {number}")
            self.line_bad(f"num {number} 1")
            self.line_bad(f"plus 1 {number} 1")
            self.line_bad(f"call 1 1 1 {number}")
            self.line_bad(f"say {number}")

    def test_blanks(self):
        for line in (
            " rest", "rest ", "say  0", " say 0", "say 0 ", "num 0  1", "num  0 1", "call 0 0 ", "call 0 0  1",
        ):
            self.line_bad(line)

    def test_ahead_of_the_first_fun(self):
        for line in ("rest", "say 0", "num 0 0", "call 0 0", "tell 7"):
            self.bad(line, 0)
            self.bad(line + "\nfun 0", 0)
            self.bad(line + "\nno", 0)

    def test_the_first_row_is_told(self):
        self.bad("fun 0\nno\nno", 1)
        self.bad("fun 0\nrest\nsay\nnum 1 00", 2)
        self.bad("no\nrest", 0)

    def test_what_is_read_need_not_be_a_program(self):
        self.assertEqual(read("fun 4"), ((4, ()),))
        self.assertEqual(read("fun 999\nsay 999"), ((999, (("say", 999),)),))
        self.assertEqual(read("fun 0\ncall 8 900 1 2"), ((0, (("call", 8, 900, (1, 2)),)),))
        self.assertEqual(read("fun 0\nskip 0 5\nplus 8 9 10"), ((0, (("skip", 0, 5), ("plus", 8, 9, 10))),))
        self.assertEqual(read("\n".join(["fun 0"] * 20)), ((0, ()),) * 20)
        self.assertEqual(read("\n".join(["fun 0"] + ["rest"] * 50)), ((0, (("rest",),) * 50),))

    def test_4000_signs(self):
        text = "fun 0" + "\nrest" * 799
        self.assertEqual(len(text), 4000)
        self.assertEqual(read(text), ((0, (("rest",),) * 799),))
        self.bad(text[:-1], 799)
        self.bad(text[:-1] + "~", 799)
        self.bad("fun 0" + "\n" * 3995, 1)

    def test_spoilt_texts(self):
        chance = random.Random(72)
        signs = "0123456789 \n\n  abcfunrestcall~-_.,()#"
        texts = [written(program) for program, hands, order in random_samples(73, 60)]
        refused = 0
        for turn in range(6000):
            text = chance.choice(texts)
            for spot in range(chance.randint(1, 2)):
                at = chance.randrange(len(text) + 1)
                text = text[:at] + chance.choice(("", chance.choice(signs))) + text[at + chance.randrange(2):]
            row = expected_row(text)
            if row is None:
                self.assertEqual(read(text), expected_program(text) if text else ())
            else:
                refused += 1
                self.bad(text, row)
        self.assertTrue(1000 < refused < 5900, refused)
