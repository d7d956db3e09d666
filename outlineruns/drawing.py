"""Paths: how they begin, go on by pieces, and are closed."""

from outlineruns.figures import within_bits
from outlineruns.refusals import FINE, NO_PATH, OUT_OF_RANGE, TOO_MUCH_DRAWN, WRONG_COUNT
from outlineruns.state import take_all, take_with_width

BEGIN = 0
LINE = 1
CURVE = 2
CLOSE = 3


def put(run, numbers):
    if len(run.drawn) + len(numbers) > run.most:
        return TOO_MUCH_DRAWN
    run.drawn.extend(numbers)
    return FINE


def draw_piece(run, head, steps):
    """Put head and the places that the steps lead to; the last of them is the run's place then."""
    numbers = list(head)
    x = run.x
    y = run.y
    for dx, dy in steps:
        x += dx
        y += dy
        if not within_bits(x) or not within_bits(y):
            return OUT_OF_RANGE
        numbers.append(x)
        numbers.append(y)
    run.x = x
    run.y = y
    return put(run, numbers)


def draw(run, pieces_of):
    pieces = pieces_of(take_all(run))
    if pieces is None:
        return WRONG_COUNT
    if not run.begun:
        return NO_PATH
    for steps in pieces:
        refusal = draw_piece(run, [LINE] if len(steps) == 1 else [CURVE], steps)
        if refusal != FINE:
            return refusal
    return FINE


def is_none(count):
    return count == 0


def is_one(count):
    return count == 1


def is_two(count):
    return count == 2


def begin_path(run, dx, dy):
    head = [CLOSE, BEGIN] if run.begun else [BEGIN]
    run.begun = True
    return draw_piece(run, head, [(dx, dy)])


def move(run):
    numbers = take_with_width(run, is_two)
    if numbers is None:
        return WRONG_COUNT
    return begin_path(run, numbers[0], numbers[1])


def move_along_x(run):
    numbers = take_with_width(run, is_one)
    if numbers is None:
        return WRONG_COUNT
    return begin_path(run, numbers[0], 0)


def move_along_y(run):
    numbers = take_with_width(run, is_one)
    if numbers is None:
        return WRONG_COUNT
    return begin_path(run, 0, numbers[0])


def end(run):
    if take_with_width(run, is_none) is None:
        return WRONG_COUNT
    run.ended = True
    return put(run, [CLOSE]) if run.begun else FINE


PATHS = {4: move_along_y, 14: end, 21: move, 22: move_along_x}
