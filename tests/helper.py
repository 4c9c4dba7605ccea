"""Programs, traces, ways of asking and of looking at the package that several tests share."""

import ast
import builtins
import pathlib
import random

from slideboxes.errors import Long
from slideboxes.plain import run

FOLDER = pathlib.Path(__file__).resolve().parent.parent / "slideboxes"
# The builtins that ../shared/LANGUAGE.md lets the package use.
BUILTINS = (
    "len range enumerate zip min max sum abs sorted reversed int str bool bytes list tuple dict set frozenset "
    "isinstance ord repr any all divmod iter next Exception ValueError TypeError KeyError IndexError LookupError "
    "ZeroDivisionError ArithmeticError OverflowError RuntimeError NotImplementedError AttributeError StopIteration "
    "NotImplemented super"
).split()
ALL_BUILTINS = dir(builtins)

# The product of all numbers up to the argument, by the rest by 1000; calls itself once.
FACTORS = (
    (1, (
        ("num", 1, 1),
        ("skip", 0, 3),
        ("less", 2, 0, 1),
        ("call", 3, 0, (2,)),
        ("times", 1, 0, 3),
        ("tell", 1),
    )),
)

# Fibonacci numbers; calls itself twice, and of 0 it is over behind its last row.
RABBITS = (
    (1, (
        ("num", 1, 1),
        ("skip", 0, 7),
        ("less", 2, 0, 1),
        ("skip", 2, 4),
        ("call", 3, 0, (2,)),
        ("less", 4, 2, 1),
        ("call", 5, 0, (4,)),
        ("plus", 0, 3, 5),
        ("tell", 0),
    )),
)

# Says and rests on its way down and up again.
STAIRS = (
    (2, (
        ("num", 2, 1),
        ("skip", 0, 6),
        ("say", 0),
        ("rest",),
        ("less", 3, 0, 2),
        ("call", 4, 0, (3, 1)),
        ("plus", 4, 4, 1),
        ("say", 4),
        ("rest",),
        ("tell", 4),
    )),
    (0, (
        ("num", 7, 4),
        ("num", 6, 10),
        ("call", 0, 0, (7, 6)),
        ("call", 1, 2, (0, 7, 6)),
        ("say", 1),
        ("rest",),
    )),
    (3, (
        ("times", 0, 1, 2),
        ("rest",),
        ("less", 2, 0, 2),
        ("call", 2, 3, ()),
        ("tell", 0),
        ("tell", 1),
    )),
    (0, ()),
)

# Every kind of row, each box and each count of arguments.
ALL_KINDS = (
    (3, (
        ("num", 7, 999),
        ("plus", 3, 0, 1),
        ("less", 4, 3, 2),
        ("times", 5, 4, 7),
        ("skip", 5, 0),
        ("call", 6, 1, ()),
        ("skip", 6, 3),
        ("call", 6, 2, (5,)),
        ("tell", 0),
        ("call", 0, 3, (2, 2)),
        ("say", 0),
        ("rest",),
        ("call", 1, 0, (6, 5, 4)),
        ("skip", 0, 1),
        ("tell", 6),
    )),
    (0, (("skip", 3, 2), ("num", 0, 5), ("tell", 0), ("num", 3, 0), ("num", 3, 0))),
    (1, (("num", 0, 0), ("num", 1, 0), ("tell", 0))),
    (2, (("tell", 1), ("rest",), ("skip", 7, 0))),
)

SAMPLES = (
    (FACTORS, [(0, (5,))], [0]),
    (FACTORS, [(0, (12,)), (0, (0,)), (0, (7,))], [2, 0, 2, 1]),
    (RABBITS, [(0, (7,)), (0, (0,))], [0, 1]),
    (STAIRS, [(0, (3, 10)), (1, ()), (0, (2, 999)), (3, ())], [0, 1, 2, 0, 0, 1, 3, 3, 1, 2, 0, 2, 1, 1] * 4),
    (STAIRS, [(0, (9, 100)), (0, (9, 7))], [0, 1] * 20),
    (STAIRS, [(0, (12, 3)), (1, ()), (1, ())], [0] * 11 + [1, 2] * 7 + [0] * 20),
    (STAIRS, [(0, (5, 5)), (2, (1, 2, 3))], []),
)


def random_box(chance):
    return chance.randrange(8)


def random_row(chance, manys, number, behind):
    word = chance.choice(("num", "plus", "less", "times", "call", "call", "skip", "say", "rest", "tell"))
    if word == "num":
        return (word, random_box(chance), chance.choice((0, 1, 2, 999, chance.randrange(1000))))
    if word == "call":
        if number + 1 == len(manys):
            return ("rest",)
        function = chance.randrange(number + 1, len(manys))
        return (word, random_box(chance), function, tuple(random_box(chance) for at in range(manys[function])))
    if word == "skip":
        return (word, random_box(chance), chance.randint(0, min(behind, 4)))
    if word == "rest":
        return (word,)
    if word == "tell" and behind > 2:
        word = "say"
    if word in ("say", "tell"):
        return (word, random_box(chance))
    return (word, random_box(chance), random_box(chance), random_box(chance))


def random_function(chance, manys, number):
    size = chance.randrange(13)
    rows = [random_row(chance, manys, number, size - 1 - at) for at in range(size)]
    if manys[number] and chance.randrange(2):
        # The argument falls by one at each call of itself, so that it ends.
        arguments = (0,) + tuple(random_box(chance) for at in range(manys[number] - 1))
        again = [("less", 0, 0, 7), ("call", random_box(chance), number, arguments)]
        rows = [("num", 7, 1), ("skip", 0, len(rows) + 2)] + again + rows
    return (manys[number], tuple(rows))


def random_program(chance):
    manys = [chance.randrange(4) for at in range(chance.randint(1, 4))]
    return tuple(random_function(chance, manys, number) for number in range(len(manys)))


def random_hand(chance, program):
    function = chance.randrange(len(program))
    first = chance.randrange(8)
    return (function, tuple(first if at == 0 else chance.randrange(1000) for at in range(program[function][0])))


def random_samples(seed, many):
    """Programs, hands and orders that no run refuses; the same ones for the same seed."""
    chance = random.Random(seed)
    samples = []
    while len(samples) < many:
        program = random_program(chance)
        hands = [random_hand(chance, program) for at in range(chance.randint(1, 4))]
        order = [chance.randrange(len(hands)) for at in range(chance.randrange(40))]
        try:
            run(program, hands, order)
        except Long:
            continue
        samples.append((program, hands, order))
    return samples


def rounds_and_rules():
    return [(many, (spill, fetch)) for many in range(2, 9) for spill in range(1, many) for fetch in range(1, many)]


def random_trace(chance, size, hands=4, deepest=60):
    """So many events that can come, or fewer if all hands are over."""
    depths = {hand: 0 for hand in range(hands)}
    trace, hand = [], None
    while depths and len(trace) < size:
        if hand is None:
            hand = chance.choice(list(depths))
            trace.append(("pick", hand))
            continue
        words = ["call"] * 3 * (depths[hand] < deepest) + ["rest"] + ["back"] * 2
        word = chance.choice(words)
        if word == "back" and depths[hand] == 0:
            word = chance.choice(("over", "rest"))
        trace.append((word,))
        depths[hand] += {"call": 1, "back": -1}.get(word, 0)
        if word == "over":
            del depths[hand]
        if word in ("rest", "over"):
            hand = None
    return trace


def down_and_up(depth):
    """One hand that calls so deep, and goes back till it is over."""
    return [("pick", 0)] + [("call",)] * depth + [("back",)] * depth + [("over",)]


def expected_log(trace, many, choose):
    """The log of a machine and its count of traps, by the events of the run: lists of calls that are in and out.

    How many are moved at a trap is told by choose(word, most).
    """
    log, traps, last = [], 0, None
    calls_in = []
    calls_out = {hand: [0] for hand in range(4)}

    def spill(count):
        for call in calls_in[:count]:
            log.append(("spill", last, call))
            calls_out[last].append(call)
        del calls_in[:count]

    def fetch():
        count = choose("fetch", min(len(calls_out[last]), many - 1))
        for call in calls_out[last][::-1][:count]:
            log.append(("fetch", last, call))
            calls_in.insert(0, call)
            calls_out[last].remove(call)

    for event in trace:
        if event[0] == "pick":
            switch = event[1] != last
            if switch:
                spill(len(calls_in))
            log.append(event)
            if switch:
                last = event[1]
                traps += 1
                fetch()
        elif event[0] == "call":
            call = calls_in[-1] + 1
            if len(calls_in) == many - 1:
                traps += 1
                spill(choose("spill", len(calls_in)))
            log.append(event)
            calls_in.append(call)
        else:
            log.append(event)
            if event[0] in ("back", "over"):
                calls_in.pop()
            if event[0] == "back" and not calls_in:
                traps += 1
                fetch()
    return log, traps


def moves_in(log):
    """How many spills and how many fetches stand in a log."""
    words = [row[0] for row in log]
    return words.count("spill"), words.count("fetch")


def events_of(log):
    return [row for row in log if row[0] not in ("spill", "fetch")]


def by_rule(rule):
    return lambda word, most: min(rule[word == "fetch"], most)


class Missing(Exception):
    """The numbers of a plan are used up at a trap, at which so many could be moved at most."""

    def __init__(self, most):
        super().__init__(most)
        self.most = most


def by_numbers(numbers):
    left = list(numbers)

    def choose(word, most):
        if not left:
            raise Missing(most)
        return left.pop(0)

    return choose


def all_plans(trace, many):
    """All plans, as lists ascend, each with its spills and fetches; found by trying."""
    plans, tried = [], [[]]
    while tried:
        plan = tried.pop()
        try:
            log, traps = expected_log(trace, many, by_numbers(plan))
        except Missing as missing:
            tried += [plan + [count] for count in range(missing.most, 0, -1)]
        else:
            plans.append((plan, *moves_in(log)))
    return plans


def refusal(error, asked, *arguments):
    """The refusal of that very class with which a call ends."""
    try:
        asked(*arguments)
    except Exception as refused:
        if type(refused) is not error:
            raise AssertionError(f"{type(refused).__name__} in the place of {error.__name__}") from refused
        return refused
    raise AssertionError(f"no {error.__name__}")


def files():
    return sorted(FOLDER.glob("*.py"))


def trees():
    return [(file, ast.parse(file.read_text())) for file in files()]


def nodes(kind):
    return [(file, node) for file, tree in trees() for node in ast.walk(tree) if isinstance(node, kind)]
