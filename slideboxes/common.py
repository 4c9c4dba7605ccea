"""What the files of the package share: checks of what is handed in, and sums."""

from slideboxes.errors import BadCode, BadHands, BadOrder, BadProgram, BadRound, BadRule

MOST_FUNCTIONS = 8
MOST_ARGUMENTS = 3
MOST_PROGRAM_ROWS = 30
MOST_CODE_ROWS = 200
PROGRAM_BOXES = 8
CODE_BOXES = 16
NUMBERS = 1000
MOST_HANDS = 4
MOST_PICKS = 200
MOST_STRETCHES = 8
MOST_WITHIN = 60

PROGRAM_ROWS = {
    "num": ("box", "number"),
    "plus": ("box", "box", "box"),
    "less": ("box", "box", "box"),
    "times": ("box", "box", "box"),
    "call": ("box", "function", "boxes"),
    "skip": ("box", "count"),
    "say": ("box",),
    "rest": (),
    "tell": ("box",),
}
CODE_ROWS = {
    "num": ("box", "number"),
    "copy": ("box", "box"),
    "plus": ("box", "box", "box"),
    "less": ("box", "box", "box"),
    "times": ("box", "box", "box"),
    "call": ("function",),
    "skip": ("box", "count"),
    "say": ("box",),
    "rest": (),
    "back": (),
}


def whole(value):
    # Python counts True and False among the numbers; the document does not.
    return isinstance(value, int) and not isinstance(value, bool)


def below(value, bound):
    return whole(value) and 0 <= value < bound


def all_below(values, bound):
    return all([below(value, bound) for value in values])


def reckoned(word, left, right):
    """The result of a plus, a less or a times."""
    if word == "plus":
        return (left + right) % NUMBERS
    if word == "less":
        return (left - right) % NUMBERS
    return left * right % NUMBERS


def boxes_by(row, kinds):
    return [part for kind, part in zip(kinds, row[1:]) if kind == "box"]


def program_boxes(row):
    """The boxes that stand in a row of a program."""
    boxes = boxes_by(row, PROGRAM_ROWS[row[0]])
    if row[0] == "call":
        boxes.extend(row[3])
    return boxes


def code_boxes(row):
    """The boxes in sight that stand in a row of a code."""
    return boxes_by(row, CODE_ROWS[row[0]])


def function_can_be(function, most):
    if not isinstance(function, tuple) or len(function) != 2:
        return False
    many, rows = function
    return below(many, MOST_ARGUMENTS + 1) and isinstance(rows, tuple) and len(rows) <= most


def first_bad_function(functions, most):
    """The number of the first function that can't be as such, or None."""
    if not isinstance(functions, tuple) or len(functions) == 0:
        return 0
    for number, function in enumerate(functions):
        if number == MOST_FUNCTIONS or not function_can_be(function, most):
            return number
    return None


def row_can_be(row, shapes, bounds, manys):
    if not isinstance(row, tuple) or len(row) == 0 or not isinstance(row[0], str):
        return False
    kinds = shapes.get(row[0])
    if kinds is None or len(row) != len(kinds) + 1:
        return False
    for kind, part in zip(kinds, row[1:]):
        # The function stands ahead of its boxes in a row, so it is known to be one here.
        if kind == "boxes":
            if not isinstance(part, tuple) or len(part) != manys[row[2]] or not all_below(part, bounds["box"]):
                return False
        elif not below(part, bounds[kind]):
            return False
    return True


def first_bad(functions, shapes, boxes, most):
    """The function and the row of the first that can't be, or None."""
    bad = first_bad_function(functions, most)
    if bad is not None:
        return bad, -1
    manys = [many for many, rows in functions]
    for number, (many, rows) in enumerate(functions):
        for at, row in enumerate(rows):
            bounds = {"box": boxes, "number": NUMBERS, "function": len(functions), "count": len(rows) - at}
            if not row_can_be(row, shapes, bounds, manys):
                return number, at
    return None


def check_program(program):
    bad = first_bad(program, dict(PROGRAM_ROWS), PROGRAM_BOXES, MOST_PROGRAM_ROWS)
    if bad is not None:
        function, row = bad
        raise BadProgram(function, row)


def check_code(code):
    bad = first_bad(code, dict(CODE_ROWS), CODE_BOXES, MOST_CODE_ROWS)
    if bad is not None:
        function, row = bad
        raise BadCode(function, row)


def hand_can_be(functions, hand):
    if not isinstance(hand, tuple) or len(hand) != 2:
        return False
    function, arguments = hand
    if not below(function, len(functions)) or not isinstance(arguments, tuple):
        return False
    return len(arguments) == functions[function][0] and all_below(arguments, NUMBERS)


def check_hands(functions, hands):
    if len(hands) == 0:
        raise BadHands(0)
    for at, hand in enumerate(hands):
        if at == MOST_HANDS or not hand_can_be(functions, hand):
            raise BadHands(at)


def check_order(hands, order):
    for at, pick in enumerate(order):
        if at == MOST_PICKS or not below(pick, len(hands)):
            raise BadOrder(at)


def check_round(many):
    if not below(many, MOST_STRETCHES + 1) or many < 2:
        raise BadRound("a round has 2 to 8 stretches")


def check_rule(rule, many):
    if not isinstance(rule, tuple) or len(rule) != 2 or not all_below(rule, many) or 0 in rule:
        raise BadRule("a rule is two numbers from 1 to one less than the round")
