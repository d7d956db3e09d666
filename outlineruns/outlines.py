"""The calls of one list, and their answers."""

from outlineruns.running import run_program
from outlineruns.subroutines import Subroutines, replace_kind

SUBRS = 0


def answers(calls):
    """For each call, in order, how many numbers are answered, then these numbers."""
    subroutines = Subroutines()
    given = []
    at = 0
    while at < len(calls):
        first_row = row_at(calls, at + 2)
        behind = at + 3 + len(first_row)
        if calls[at] == SUBRS:
            ends = row_at(calls, behind)
            behind += 1 + len(ends)
            answer = [replace_kind(subroutines, calls[at + 1], first_row, ends)]
        else:
            answer = run_program(first_row, calls[at + 1], subroutines)
        given.append(len(answer))
        given.extend(answer)
        at = behind
    return given


def row_at(calls, at):
    """A copy of the row whose length stands there."""
    return calls[at + 1:at + 1 + calls[at]]
