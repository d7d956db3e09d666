"""Subroutines: how they are handed over, called within a run, and left again."""

from outlineruns.figures import whole_part
from outlineruns.refusals import BYTES_END, FINE, NO_SUBROUTINE, TOO_DEEP, WRONG_CALL, WRONG_COUNT

OWN_KIND = 0
COMMON_KIND = 1
MOST_BYTES = 65536
MOST_SUBROUTINES = 2048
MOST_WITHIN = 10


class Subroutines:
    def __init__(self):
        self.own = []
        self.common = []


def replace_kind(subroutines, kind, data, ends):
    """Put these in the place of one kind of subroutines, or refuse and change nothing."""
    if kind != OWN_KIND and kind != COMMON_KIND:
        return WRONG_CALL
    if len(data) > MOST_BYTES or len(ends) > MOST_SUBROUTINES:
        return WRONG_CALL
    cut = cut_at(data, ends)
    if cut is None:
        return WRONG_CALL
    if kind == OWN_KIND:
        subroutines.own = cut
    else:
        subroutines.common = cut
    return FINE


def cut_at(data, ends):
    cut = []
    start = 0
    for end in ends:
        if end < start or end > len(data):
            return None
        cut.append(data[start:end])
        start = end
    return cut


def added_for(count):
    return 107 if count < 1240 else 1131


def call_own(run):
    return call_one_of(run, run.own)


def call_common(run):
    return call_one_of(run, run.common)


def call_one_of(run, subroutines):
    if len(run.stack) < 1:
        return WRONG_COUNT
    number = whole_part(run.stack.pop()) + added_for(len(subroutines))
    if number < 0 or number >= len(subroutines):
        return NO_SUBROUTINE
    if len(run.callers) >= MOST_WITHIN:
        return TOO_DEEP
    run.callers.append((run.code, run.at))
    run.code = subroutines[number]
    run.at = 0
    return FINE


def leave(run):
    if len(run.callers) == 0:
        return BYTES_END
    back = run.callers.pop()
    run.code = back[0]
    run.at = back[1]
    return FINE


CALLING = {10: call_own, 11: leave, 29: call_common}
