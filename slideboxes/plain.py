"""Plain runs of programs: each call has boxes of its own."""

from slideboxes.common import MOST_WITHIN, PROGRAM_BOXES, check_hands, check_order, check_program, reckoned
from slideboxes.errors import Long

MOST_ROWS = 2000


class Call:
    """A call that goes on: its rows and the place among them, its boxes, and the caller's box for what it tells."""

    def __init__(self, function, arguments, into):
        many, rows = function
        self.rows = rows
        self.place = 0
        self.cells = list(arguments) + [0] * (PROGRAM_BOXES - many)
        self.into = into


class PlainRun:
    """All hands of a program: the calls that each is in, outermost first, and what came of them so far."""

    def __init__(self, program, hands):
        self.program = program
        self.stacks = [[Call(program[function], arguments, None)] for function, arguments in hands]
        self.results = [None] * len(hands)
        self.said = []
        self.events = []
        self.done = 0

    def go_on(self, hand):
        """Let a hand go on behind its next rest, or to its end."""
        stack = self.stacks[hand]
        if not stack:
            return
        self.events.append(("pick", hand))
        while stack and self.step(hand, stack):
            pass

    def step(self, hand, stack):
        """Do a row of the innermost call, or end it behind its last one; tell if the hand doesn't rest."""
        call = stack[-1]
        if call.place == len(call.rows):
            self.leave(hand, stack, 0)
            return True
        self.count_row()
        row = call.rows[call.place]
        call.place += 1
        if row[0] == "rest":
            self.events.append(("rest",))
            return False
        self.do_row(hand, stack, row)
        return True

    def count_row(self):
        if self.done == MOST_ROWS:
            raise Long("more than 2,000 rows")
        self.done += 1

    def do_row(self, hand, stack, row):
        call = stack[-1]
        match row:
            case ("num", box, number):
                call.cells[box] = number
            case ("call", into, function, boxes):
                self.enter(stack, into, function, boxes)
            case ("skip", box, many):
                if call.cells[box] == 0:
                    call.place += many
            case ("say", box):
                self.said.append((hand, call.cells[box]))
            case ("tell", box):
                self.leave(hand, stack, call.cells[box])
            case (word, into, left, right):
                call.cells[into] = reckoned(word, call.cells[left], call.cells[right])

    def enter(self, stack, into, function, boxes):
        if len(stack) > MOST_WITHIN:
            raise Long("a call within more than sixty others")
        self.events.append(("call",))
        caller = stack[-1]
        arguments = [caller.cells[box] for box in boxes]
        stack.append(Call(self.program[function], arguments, into))

    def leave(self, hand, stack, number):
        """End the innermost call, which tells the number."""
        call = stack.pop()
        if stack:
            caller = stack[-1]
            caller.cells[call.into] = number
            self.events.append(("back",))
        else:
            self.results[hand] = number
            self.events.append(("over",))


def played(program, hands, order):
    check_program(program)
    check_hands(program, hands)
    check_order(hands, order)
    going = PlainRun(program, hands)
    for hand in order:
        going.go_on(hand)
    return going


def run(program, hands, order):
    """What each hand told, None if it isn't over, and all that was said, (hand, number), in turn."""
    ended = played(program, hands, order)
    return ended.results, ended.said


def traced(program, hands, order):
    """The events of the same run."""
    return played(program, hands, order).events
