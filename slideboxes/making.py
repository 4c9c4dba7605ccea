"""Codes made of programs, and programs back again."""

from slideboxes.common import check_code, check_program, code_boxes, program_boxes
from slideboxes.errors import BadProgram, NotMade

FIRST_OWN = 4
FIRST_OUT = 12
LAST_ROWS = (("num", 0, 0), ("back",))


def place_of(box, many):
    """Where a box of a program lies in sight, in a function of so many arguments."""
    return box if box < many else box + FIRST_OWN


def made_row(row, many):
    """The rows of the code that a row makes; a skip's count is left as it is."""
    word = row[0]
    places = [place_of(box, many) for box in program_boxes(row)]
    if word == "call":
        outs = [("copy", FIRST_OUT + at, place) for at, place in enumerate(places[1:])]
        return [*outs, ("call", row[2]), ("copy", places[0], FIRST_OUT)]
    if word == "tell":
        return [("copy", 0, places[0]), ("back",)]
    if word in ("num", "skip"):
        return [(word, places[0], row[2])]
    return [(word, *places)]


def first_rows(rows, many):
    """The rows that empty each box which is no argument but stands in the rows."""
    fresh = sorted({box for row in rows for box in program_boxes(row) if box >= many})
    return [("num", place_of(box, many), 0) for box in fresh]


def made_function(function):
    many, rows = function
    pieces = [made_row(row, many) for row in rows]
    sizes = [len(piece) for piece in pieces]
    code_rows = first_rows(rows, many)
    for at, piece in enumerate(pieces):
        if rows[at][0] == "skip":
            word, place, count = piece[0]
            code_rows.append((word, place, sum(sizes[at + 1:at + 1 + count])))
        else:
            code_rows.extend(piece)
    return many, (*code_rows, *LAST_ROWS)


def made(program):
    """The code of a program."""
    check_program(program)
    return tuple([made_function(function) for function in program])


def piece_size(rows, at):
    """How many rows of a code, from there on, a single row of a program makes, if any does."""
    end = at
    while end < len(rows) and rows[end][0] == "copy":
        end += 1
    if end < len(rows) and rows[end][0] == "call":
        # Behind the call itself its result is copied.
        return end + 2 - at
    return end + 1 - at


def cut(rows):
    """The rows of a code in pieces, one for each row of a program."""
    pieces = []
    at = 0
    while at < len(rows):
        size = piece_size(rows, at)
        pieces.append(rows[at:at + size])
        at += size
    return pieces


def box_at(place, many):
    return place if place < many else place - FIRST_OWN


def unmade_piece(piece, many):
    """The row that makes the piece, if any does; a skip's count is left as it is."""
    words = [row[0] for row in piece]
    if words[-2:] == ["call", "copy"]:
        boxes = [box_at(out[2], many) for out in piece[:-2]]
        call, result = piece[-2:]
        return ("call", box_at(result[1], many), call[1], tuple(boxes))
    first = piece[0]
    if words == ["copy", "back"]:
        return ("tell", box_at(first[2], many))
    if words[0] in ("num", "skip"):
        return (words[0], box_at(first[1], many), first[2])
    boxes = [box_at(place, many) for place in code_boxes(first)]
    return (words[0], *boxes)


def rows_passed(pieces, count):
    """How many of the pieces, from the first on, it takes to get so many rows of the code."""
    passed = 0
    while count > 0 and passed < len(pieces):
        count -= len(pieces[passed])
        passed += 1
    return passed


def unmade_function(function):
    """The only function that may make this one; whether it does shows as it is made again."""
    many, code_rows = function
    fresh = sorted({box for row in code_rows for box in code_boxes(row) if FIRST_OWN <= box < FIRST_OUT})
    pieces = cut(code_rows[len(fresh):-len(LAST_ROWS)])
    rows = []
    for at, piece in enumerate(pieces):
        row = unmade_piece(piece, many)
        if row[0] == "skip":
            word, box, count = row
            row = (word, box, rows_passed(pieces[at + 1:], count))
        rows.append(row)
    return many, tuple(rows)


def unmade(code):
    """The program of which a code is made."""
    check_code(code)
    program = tuple([unmade_function(function) for function in code])
    try:
        again = made(program)
    except BadProgram:
        raise NotMade("its rows are those of no program") from None
    if again != code:
        raise NotMade("no program makes these rows")
    return program
