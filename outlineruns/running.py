"""A program's bytes, read one behind another and done."""

from outlineruns.drawing import PATHS, draw
from outlineruns.figures import begins_number, bytes_behind, number_of
from outlineruns.hints import HINTING
from outlineruns.keeping import KEEPING
from outlineruns.pieces import PIECES
from outlineruns.reckoning import RECKONED, reckon
from outlineruns.refusals import BYTES_END, FINE, NO_OPERATOR, TOO_MANY_OPERATORS, WRONG_CALL
from outlineruns.state import Run, push
from outlineruns.subroutines import CALLING, MOST_BYTES

MOST_DRAWN = 1048576
MOST_OPERATORS = 100000
TWO_BYTES = 12
TWO_BYTES_FROM = 1200


def run_program(code, most, subroutines):
    """How many numbers are drawn, the width, and they; or the refusal alone."""
    if len(code) > MOST_BYTES or most < 0 or most > MOST_DRAWN:
        return [WRONG_CALL]
    run = Run(code, most, subroutines.own, subroutines.common)
    refusal = FINE
    while refusal == FINE and not run.ended:
        refusal = step(run)
    if refusal != FINE:
        return [refusal]
    return [len(run.drawn), run.width] + run.drawn


def step(run):
    if run.at >= len(run.code):
        return BYTES_END
    first = run.code[run.at]
    run.at += 1
    if begins_number(first):
        return push_number(run, first)
    if first == TWO_BYTES:
        if run.at >= len(run.code):
            return BYTES_END
        first = TWO_BYTES_FROM + run.code[run.at]
        run.at += 1
    run.operators += 1
    if run.operators > MOST_OPERATORS:
        return TOO_MANY_OPERATORS
    return operate(run, first)


def push_number(run, first):
    behind = run.at + bytes_behind(first)
    if behind > len(run.code):
        return BYTES_END
    number = number_of(first, run.code[run.at:behind])
    run.at = behind
    return push(run, number)


def operate(run, operator):
    pieces_of = PIECES.get(operator)
    if pieces_of is not None:
        return draw(run, pieces_of)
    reckoned = RECKONED.get(operator)
    if reckoned is not None:
        return reckon(run, reckoned[0], reckoned[1])
    deed = deed_of(operator)
    if deed is None:
        return NO_OPERATOR
    return deed(run)


def deed_of(operator):
    if operator in PATHS:
        return PATHS[operator]
    if operator in HINTING:
        return HINTING[operator]
    if operator in KEEPING:
        return KEEPING[operator]
    return CALLING.get(operator)
