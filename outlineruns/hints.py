"""The operators of hints: they draw nothing, but how many there are says how long a mask is."""

from outlineruns.refusals import BYTES_END, FINE, TOO_MANY_HINTS, WRONG_COUNT
from outlineruns.state import take_with_width

MOST_HINTS = 96


def some_pairs(count):
    return count >= 2 and count % 2 == 0


def pairs_or_none(count):
    return count % 2 == 0


def add_hints(run, fits):
    numbers = take_with_width(run, fits)
    if numbers is None:
        return WRONG_COUNT
    run.hints += len(numbers) // 2
    if run.hints > MOST_HINTS:
        return TOO_MANY_HINTS
    return FINE


def stems(run):
    return add_hints(run, some_pairs)


def mask(run):
    refusal = add_hints(run, pairs_or_none)
    if refusal != FINE:
        return refusal
    behind = run.at + (run.hints + 7) // 8
    if behind > len(run.code):
        return BYTES_END
    run.at = behind
    return FINE


HINTING = {1: stems, 3: stems, 18: stems, 23: stems, 19: mask, 20: mask}
