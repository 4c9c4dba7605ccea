"""What slideboxes refuses: one class for each kind of refusal."""


class SlideError(ValueError):
    """Any refusal."""


class BadProgram(SlideError):
    """No program: the function and the row of the first that can't be, row -1 for a function as such."""

    def __init__(self, function, row):
        super().__init__(f"no program: function {function}, row {row}")
        self.function = function
        self.row = row


class BadCode(SlideError):
    """No code: the function and the row of the first that can't be, row -1 for a function as such."""

    def __init__(self, function, row):
        super().__init__(f"no code: function {function}, row {row}")
        self.function = function
        self.row = row


class BadHands(SlideError):
    """No hands: at is the number of the first that can't be."""

    def __init__(self, at):
        super().__init__(f"no hands: hand {at}")
        self.at = at


class BadOrder(SlideError):
    """No order: at is the number of the first pick that can't be."""

    def __init__(self, at):
        super().__init__(f"no order: pick {at}")
        self.at = at


class BadTrace(SlideError):
    """No trace: at is the number of the first event that is none or can't come."""

    def __init__(self, at):
        super().__init__(f"no trace: event {at}")
        self.at = at


class BadPlan(SlideError):
    """No plan: at is the number of the first that can't be, is missing or is too many."""

    def __init__(self, at):
        super().__init__(f"no plan: number {at}")
        self.at = at


class BadLog(SlideError):
    """No log: at is the number of the first that is neither an event nor a move."""

    def __init__(self, at):
        super().__init__(f"no log: row {at}")
        self.at = at


class BadText(SlideError):
    """No text of a program: the first row that is none."""

    def __init__(self, row):
        super().__init__(f"no text: row {row}")
        self.row = row


class BadRound(SlideError):
    """No round of so many stretches."""


class BadRule(SlideError):
    """No rule for such a round."""


class BadCost(SlideError):
    """No cost, or no count of moves."""


class NoHand(SlideError):
    """There is no hand of that number."""


class NotMade(SlideError):
    """A code that is made of no program."""


class NoRound(SlideError):
    """No round is enough."""


class Long(SlideError):
    """Too many rows are done, or a call is within too many others."""
