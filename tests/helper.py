"""Programs and ways of asking that several tests share."""

import random

from slideboxes.errors import Long
from slideboxes.plain import run

# The product of all numbers up to the argument, by the rest by 1000; calls itself once.
FACTORS = (
    (1, (
        ("num", 1, 1),
        ("skip", 0, 3),
        ("less", 2, 0, 1),
        ("call", 3, 0, (2,)),
        ("times", 1, 0, 3),
        ("tell", 1),
    )),
)

# Fibonacci numbers; calls itself twice, and of 0 it is over behind its last row.
RABBITS = (
    (1, (
        ("num", 1, 1),
        ("skip", 0, 7),
        ("less", 2, 0, 1),
        ("skip", 2, 4),
        ("call", 3, 0, (2,)),
        ("less", 4, 2, 1),
        ("call", 5, 0, (4,)),
        ("plus", 0, 3, 5),
        ("tell", 0),
    )),
)

# Says and rests on its way down and up again.
STAIRS = (
    (2, (
        ("num", 2, 1),
        ("skip", 0, 6),
        ("say", 0),
        ("rest",),
        ("less", 3, 0, 2),
        ("call", 4, 0, (3, 1)),
        ("plus", 4, 4, 1),
        ("say", 4),
        ("rest",),
        ("tell", 4),
    )),
    (0, (
        ("num", 7, 4),
        ("num", 6, 10),
        ("call", 0, 0, (7, 6)),
        ("call", 1, 2, (0, 7, 6)),
        ("say", 1),
        ("rest",),
    )),
    (3, (
        ("times", 0, 1, 2),
        ("rest",),
        ("less", 2, 0, 2),
        ("call", 2, 3, ()),
        ("tell", 0),
        ("tell", 1),
    )),
    (0, ()),
)

# Every kind of row, each box and each count of arguments.
ALL_KINDS = (
    (3, (
        ("num", 7, 999),
        ("plus", 3, 0, 1),
        ("less", 4, 3, 2),
        ("times", 5, 4, 7),
        ("skip", 5, 0),
        ("call", 6, 1, ()),
        ("skip", 6, 3),
        ("call", 6, 2, (5,)),
        ("tell", 0),
        ("call", 0, 3, (2, 2)),
        ("say", 0),
        ("rest",),
        ("call", 1, 0, (6, 5, 4)),
        ("skip", 0, 1),
        ("tell", 6),
    )),
    (0, (("skip", 3, 2), ("num", 0, 5), ("tell", 0), ("num", 3, 0), ("num", 3, 0))),
    (1, (("num", 0, 0), ("num", 1, 0), ("tell", 0))),
    (2, (("tell", 1), ("rest",), ("skip", 7, 0))),
)

SAMPLES = (
    (FACTORS, [(0, (5,))], [0]),
    (FACTORS, [(0, (12,)), (0, (0,)), (0, (7,))], [2, 0, 2, 1]),
    (RABBITS, [(0, (7,)), (0, (0,))], [0, 1]),
    (STAIRS, [(0, (3, 10)), (1, ()), (0, (2, 999)), (3, ())], [0, 1, 2, 0, 0, 1, 3, 3, 1, 2, 0, 2, 1, 1] * 4),
    (STAIRS, [(0, (9, 100)), (0, (9, 7))], [0, 1] * 20),
    (STAIRS, [(0, (12, 3)), (1, ()), (1, ())], [0] * 11 + [1, 2] * 7 + [0] * 20),
    (STAIRS, [(0, (5, 5)), (2, (1, 2, 3))], []),
)


def random_box(chance):
    return chance.randrange(8)


def random_row(chance, manys, number, behind):
    word = chance.choice(("num", "plus", "less", "times", "call", "call", "skip", "say", "rest", "tell"))
    if word == "num":
        return (word, random_box(chance), chance.choice((0, 1, 2, 999, chance.randrange(1000))))
    if word == "call":
        if number + 1 == len(manys):
            return ("rest",)
        function = chance.randrange(number + 1, len(manys))
        return (word, random_box(chance), function, tuple(random_box(chance) for at in range(manys[function])))
    if word == "skip":
        return (word, random_box(chance), chance.randint(0, min(behind, 4)))
    if word == "rest":
        return (word,)
    if word == "tell" and behind > 2:
        word = "say"
    if word in ("say", "tell"):
        return (word, random_box(chance))
    return (word, random_box(chance), random_box(chance), random_box(chance))


def random_function(chance, manys, number):
    size = chance.randrange(13)
    rows = [random_row(chance, manys, number, size - 1 - at) for at in range(size)]
    if manys[number] and chance.randrange(2):
        # The argument falls by one at each call of itself, so that it ends.
        arguments = (0,) + tuple(random_box(chance) for at in range(manys[number] - 1))
        again = [("less", 0, 0, 7), ("call", random_box(chance), number, arguments)]
        rows = [("num", 7, 1), ("skip", 0, len(rows) + 2)] + again + rows
    return (manys[number], tuple(rows))


def random_program(chance):
    manys = [chance.randrange(4) for at in range(chance.randint(1, 4))]
    return tuple(random_function(chance, manys, number) for number in range(len(manys)))


def random_hand(chance, program):
    function = chance.randrange(len(program))
    first = chance.randrange(8)
    return (function, tuple(first if at == 0 else chance.randrange(1000) for at in range(program[function][0])))


def random_samples(seed, many):
    """Programs, hands and orders that no run refuses; the same ones for the same seed."""
    chance = random.Random(seed)
    samples = []
    while len(samples) < many:
        program = random_program(chance)
        hands = [random_hand(chance, program) for at in range(chance.randint(1, 4))]
        order = [chance.randrange(len(hands)) for at in range(chance.randrange(40))]
        try:
            run(program, hands, order)
        except Long:
            continue
        samples.append((program, hands, order))
    return samples


def rounds_and_rules():
    return [(many, (spill, fetch)) for many in range(2, 9) for spill in range(1, many) for fetch in range(1, many)]


def refusal(error, asked, *arguments):
    """The refusal of that very class with which a call ends."""
    try:
        asked(*arguments)
    except Exception as refused:
        if type(refused) is not error:
            raise AssertionError(f"{type(refused).__name__} in the place of {error.__name__}") from refused
        return refused
    raise AssertionError(f"no {error.__name__}")
