"""The operators that take a fixed count of numbers from the top and leave one instead."""

from outlineruns.figures import ONE, within_bits
from outlineruns.refusals import FINE, OUT_OF_RANGE, WRONG_COUNT

# No root has a higher bit than this one: 65536 times the greatest number is below 2 ** 47.
HIGHEST_ROOT_BIT = 8388608


def truth(holds):
    return ONE if holds else 0


def both(numbers):
    return truth(numbers[0] != 0 and numbers[1] != 0)


def either(numbers):
    return truth(numbers[0] != 0 or numbers[1] != 0)


def is_zero(numbers):
    return truth(numbers[0] == 0)


def without_sign(numbers):
    return abs(numbers[0])


def other_sign(numbers):
    return -numbers[0]


def plus(numbers):
    return numbers[0] + numbers[1]


def minus(numbers):
    return numbers[0] - numbers[1]


def times(numbers):
    return numbers[0] * numbers[1] // ONE


def divided(numbers):
    a = numbers[0]
    b = numbers[1]
    if b == 0:
        return None
    size = abs(a) * ONE // abs(b)
    return size if (a < 0) == (b < 0) else -size


def root(numbers):
    if numbers[0] < 0:
        return None
    square = numbers[0] * ONE
    r = 0
    bit = HIGHEST_ROOT_BIT
    while bit > 0:
        if (r + bit) * (r + bit) <= square:
            r += bit
        bit //= 2
    return r


def equal(numbers):
    return truth(numbers[0] == numbers[1])


def chosen(numbers):
    return numbers[0] if numbers[2] <= numbers[3] else numbers[1]


# For each operator, how many numbers it takes, and what it makes of them: None if that can't be told.
RECKONED = {
    1203: (2, both),
    1204: (2, either),
    1205: (1, is_zero),
    1209: (1, without_sign),
    1210: (2, plus),
    1211: (2, minus),
    1212: (2, divided),
    1214: (1, other_sign),
    1215: (2, equal),
    1222: (4, chosen),
    1224: (2, times),
    1226: (1, root),
}


def reckon(run, count, made_of):
    rest = len(run.stack) - count
    if rest < 0:
        return WRONG_COUNT
    number = made_of(run.stack[rest:])
    if number is None or not within_bits(number):
        return OUT_OF_RANGE
    run.stack = run.stack[:rest]
    run.stack.append(number)
    return FINE
