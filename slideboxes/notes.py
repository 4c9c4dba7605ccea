"""Programs as texts."""

from slideboxes.common import MOST_ARGUMENTS, PROGRAM_ROWS, check_program
from slideboxes.errors import BadText

MOST_FIGURES = 3


def line_of(row):
    if row[0] == "call":
        word, box, function, boxes = row
        row = (word, box, function, *boxes)
    return " ".join([str(part) for part in row])


def written(program):
    """The text of a program."""
    check_program(program)
    lines = []
    for many, rows in program:
        lines.append(f"fun {many}")
        lines.extend([line_of(row) for row in rows])
    return "\n".join(lines)


def is_number(part):
    if not part.isascii() or not part.isdigit() or len(part) > MOST_FIGURES:
        return False
    return part == "0" or not part.startswith("0")


def can_have(word, count):
    """Whether so many numbers can stand behind a word."""
    if word == "fun":
        return count == 1
    if word == "call":
        return 2 <= count <= 2 + MOST_ARGUMENTS
    return word in PROGRAM_ROWS and count == len(PROGRAM_ROWS[word])


def row_of(line):
    """The row that a line tells, or None if it is none."""
    pieces = line.split(" ")
    word, *parts = pieces
    if not can_have(word, len(parts)) or not all([is_number(part) for part in parts]):
        return None
    numbers = [int(part) for part in parts]
    if word == "call":
        return (word, numbers[0], numbers[1], tuple(numbers[2:]))
    return (word, *numbers)


def rows_of(text):
    """The rows of a text, those that begin a function among them."""
    # Split, the empty text would be one empty row.
    if text == "":
        return []
    rows = []
    for number, line in enumerate(text.split("\n")):
        row = row_of(line)
        if row is None or (number == 0 and row[0] != "fun"):
            raise BadText(number)
        rows.append(row)
    return rows


def read(text):
    """The program that a text tells, or what is read in its place."""
    functions = []
    for row in rows_of(text):
        if row[0] == "fun":
            functions.append((row[1], []))
        else:
            functions[-1][1].append(row)
    return tuple([(many, tuple(rows)) for many, rows in functions])
