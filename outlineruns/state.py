"""All that one run of a program knows while it goes on."""

from outlineruns.refusals import FINE, STACK_FULL

MOST_ON_STACK = 48
HOW_MANY_CELLS = 32
NO_WIDTH = -2147483648


class Run:
    def __init__(self, code, most, own, common):
        self.code = code
        self.at = 0
        # Where to go on behind each subroutine that is being run: (code, at), the outermost first.
        self.callers = []
        self.own = own
        self.common = common
        self.most = most
        self.stack = []
        self.cells = [0] * HOW_MANY_CELLS
        self.width = NO_WIDTH
        self.width_due = True
        self.hints = 0
        self.operators = 0
        self.x = 0
        self.y = 0
        self.begun = False
        self.drawn = []
        self.ended = False


def push(run, number):
    if len(run.stack) >= MOST_ON_STACK:
        return STACK_FULL
    run.stack.append(number)
    return FINE


def take_all(run):
    numbers = run.stack
    run.stack = []
    return numbers


def take_with_width(run, fits):
    """All numbers but the width, or None if there are not as many as fits asks for."""
    numbers = take_all(run)
    width_due = run.width_due
    run.width_due = False
    if fits(len(numbers)):
        return numbers
    if width_due and fits(len(numbers) - 1):
        run.width = numbers[0]
        return numbers[1:]
    return None
