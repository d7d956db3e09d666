"""The operators that move numbers about on the stack, or between it and the cells."""

from outlineruns.figures import whole_part
from outlineruns.refusals import FINE, OUT_OF_RANGE, WRONG_COUNT
from outlineruns.state import HOW_MANY_CELLS, push


def drop(run):
    if len(run.stack) < 1:
        return WRONG_COUNT
    run.stack.pop()
    return FINE


def double(run):
    if len(run.stack) < 1:
        return WRONG_COUNT
    return push(run, run.stack[-1])


def swap(run):
    if len(run.stack) < 2:
        return WRONG_COUNT
    top = run.stack.pop()
    run.stack.insert(len(run.stack) - 1, top)
    return FINE


def is_cell(cell):
    return 0 <= cell < HOW_MANY_CELLS


def put_in_cell(run):
    if len(run.stack) < 2:
        return WRONG_COUNT
    cell = whole_part(run.stack.pop())
    number = run.stack.pop()
    if not is_cell(cell):
        return OUT_OF_RANGE
    run.cells[cell] = number
    return FINE


def take_from_cell(run):
    if len(run.stack) < 1:
        return WRONG_COUNT
    cell = whole_part(run.stack.pop())
    if not is_cell(cell):
        return OUT_OF_RANGE
    return push(run, run.cells[cell])


def once_more(run):
    if len(run.stack) < 1:
        return WRONG_COUNT
    below = max(0, whole_part(run.stack.pop()))
    if below >= len(run.stack):
        return OUT_OF_RANGE
    return push(run, run.stack[len(run.stack) - 1 - below])


def turn(run):
    if len(run.stack) < 2:
        return WRONG_COUNT
    by = whole_part(run.stack.pop())
    count = whole_part(run.stack.pop())
    rest = len(run.stack) - count
    if count < 0 or rest < 0:
        return OUT_OF_RANGE
    # No numbers can't be turned by a remainder of their count, and need no turning.
    if count > 0:
        cut = len(run.stack) - by % count
        run.stack = run.stack[:rest] + run.stack[cut:] + run.stack[rest:cut]
    return FINE


KEEPING = {
    1218: drop,
    1220: put_in_cell,
    1221: take_from_cell,
    1227: double,
    1228: swap,
    1229: once_more,
    1230: turn,
}
