"""The machine: a round of stretches of boxes, which slide on at a call and back behind it."""

from slideboxes.common import MOST_WITHIN, below, check_code, check_hands, check_order, check_round, check_rule
from slideboxes.common import reckoned
from slideboxes.errors import Long, NoHand

STRETCH = 12
INS = 4
MOST_ROWS = 40000


class CodeCall:
    """A call that goes on: its rows and the place among them."""

    def __init__(self, rows):
        self.rows = rows
        self.place = 0


class HandRun:
    """A hand: its calls, outermost first, the boxes of those that are laid aside, and its outs that are kept aside.

    Those laid aside are always its outermost ones, so their count tells which calls are in.
    """

    def __init__(self, code, hand):
        function, arguments = hand
        self.calls = [CodeCall(code[function][1])]
        self.aside = [list(arguments) + [0] * (STRETCH - len(arguments))]
        self.outs = [0] * INS


class Machine:
    """A code, hands, a round of so many stretches and a rule (spill, fetch)."""

    def __init__(self, code, hands, many, rule):
        check_code(code)
        check_hands(code, hands)
        check_round(many)
        check_rule(rule, many)
        self.code = code
        self.many = many
        self.spill_many, self.fetch_many = rule
        self.cells = [0] * (STRETCH * many)
        self.runs = [HandRun(code, hand) for hand in hands]
        self.results = [None] * len(hands)
        self.last = None
        self.events = []
        self.spilled = 0
        self.fetched = 0
        self.traps = 0
        self.done = 0

    def pick(self, hand):
        """Let a hand go on behind its next rest, or to its end; the list of what it says."""
        if not below(hand, len(self.runs)):
            raise NoHand("no hand of that number")
        said = []
        going = self.runs[hand]
        if going.calls:
            self.turn_to(hand)
            while going.calls and self.step(going, said):
                pass
        return said

    def told(self):
        """What each hand told, None if it isn't over."""
        return list(self.results)

    def boxes(self):
        """All boxes of the round, the first stretch first."""
        return list(self.cells)

    def counts(self):
        """How many calls were spilled and fetched, and how many traps there were."""
        return self.spilled, self.fetched, self.traps

    def inside(self):
        """The hand whose calls are in, and within how many others its outermost and innermost one are."""
        if self.last is None:
            return None
        going = self.runs[self.last]
        if not going.calls:
            return None
        return self.last, len(going.aside), len(going.calls) - 1

    def log(self):
        """All events and moves so far."""
        return list(self.events)

    def turn_to(self, hand):
        """Get the picked hand's innermost calls in, if another one ran last."""
        if hand == self.last:
            self.events.append(("pick", hand))
            return
        if self.last is not None:
            self.put_aside(self.runs[self.last])
        self.last = hand
        self.events.append(("pick", hand))
        going = self.runs[hand]
        self.fetch_some(going)
        first = self.first_out(going)
        self.cells[first:first + INS] = going.outs

    def put_aside(self, going):
        first = self.first_out(going)
        going.outs = self.cells[first:first + INS]
        while len(going.aside) < len(going.calls):
            self.spill(going)

    def first_out(self, going):
        """Where the outs of the innermost call begin."""
        return len(going.calls) % self.many * STRETCH

    def spill(self, going):
        """Lay the outermost call that is in aside."""
        within = len(going.aside)
        first = within % self.many * STRETCH
        going.aside.append(self.cells[first:first + STRETCH])
        self.spilled += 1
        self.events.append(("spill", self.last, within))

    def fetch_some(self, going):
        """A trap: fetch as many of the innermost calls that are laid aside as the rule tells, or all."""
        self.traps += 1
        for turn in range(min(self.fetch_many, len(going.aside))):
            self.fetch(going)

    def fetch(self, going):
        boxes = going.aside.pop()
        within = len(going.aside)
        first = within % self.many * STRETCH
        self.cells[first:first + STRETCH] = boxes
        self.fetched += 1
        self.events.append(("fetch", self.last, within))

    def step(self, going, said):
        """Do a row of the innermost call; tell if the hand doesn't rest."""
        if self.done == MOST_ROWS:
            raise Long("more than 40,000 rows")
        self.done += 1
        call = going.calls[-1]
        row = ("back",)
        if call.place < len(call.rows):
            row = call.rows[call.place]
        call.place += 1
        if row[0] == "rest":
            self.events.append(("rest",))
            return False
        self.do_row(going, row, said)
        return True

    def do_row(self, going, row, said):
        match row:
            case ("num", x, number):
                self.put(going, x, number)
            case ("copy", x, y):
                self.put(going, x, self.held(going, y))
            case ("call", function):
                self.enter(going, function)
            case ("skip", x, many):
                if self.held(going, x) == 0:
                    call = going.calls[-1]
                    call.place += many
            case ("say", x):
                said.append(self.held(going, x))
            case ("back",):
                self.leave(going)
            case (word, x, y, z):
                self.put(going, x, reckoned(word, self.held(going, y), self.held(going, z)))

    def spot(self, going, box):
        """Where a box that is in sight of the innermost call lies."""
        # The outs are numbered on behind the twelve boxes of a stretch, as they lie in the one behind it.
        return ((len(going.calls) - 1) * STRETCH + box) % len(self.cells)

    def held(self, going, box):
        return self.cells[self.spot(going, box)]

    def put(self, going, box, number):
        self.cells[self.spot(going, box)] = number

    def enter(self, going, function):
        within = len(going.calls)
        # Refused ahead of the spills: a call that isn't done moves nothing.
        if within > MOST_WITHIN:
            raise Long("a call within more than sixty others")
        if within - len(going.aside) == self.many - 1:
            self.traps += 1
            for turn in range(self.spill_many):
                self.spill(going)
        self.events.append(("call",))
        going.calls.append(CodeCall(self.code[function][1]))

    def leave(self, going):
        """End the innermost call, and get the one that called it in."""
        number = self.held(going, 0)
        going.calls.pop()
        if not going.calls:
            self.results[self.last] = number
            self.events.append(("over",))
            return
        self.events.append(("back",))
        if len(going.aside) == len(going.calls):
            self.fetch_some(going)


def slid(code, hands, order, many, rule):
    """What run tells, told by a machine."""
    check_code(code)
    check_hands(code, hands)
    check_order(hands, order)
    machine = Machine(code, hands, many, rule)
    said = []
    for hand in order:
        said.extend([(hand, number) for number in machine.pick(hand)])
    return machine.told(), said
