"""Programs written shortly, and answers taken apart."""

from outlineruns.outlines import answers

U = 65536
LEAST = -2147483648
GREATEST = 2147483647
NO_WIDTH = LEAST
PLENTY = 1048576


def bits(number):
    """The five bytes that put these 32 bits on the stack."""
    return [255] + list(number.to_bytes(4, "big", signed=True))


def num(value):
    """Bytes of a whole number, in the shortest form."""
    if -107 <= value <= 107:
        return [value + 139]
    if 108 <= value <= 1131:
        return [247 + (value - 108) // 256, (value - 108) % 256]
    if -1131 <= value <= -108:
        return [251 + (-value - 108) // 256, (-value - 108) % 256]
    return [28] + list(value.to_bytes(2, "big", signed=True))


def nums(*values):
    return [byte for value in values for byte in num(value)]


def run_call(code, most=PLENTY):
    return [1, most, len(code)] + code


def subrs_raw(kind, data, ends):
    return [0, kind, len(data)] + data + [len(ends)] + ends


def subrs_call(kind, bodies):
    data = [byte for body in bodies for byte in body]
    ends = [sum(len(body) for body in bodies[:i + 1]) for i in range(len(bodies))]
    return subrs_raw(kind, data, ends)


def apart(given):
    """The answers of a list, each a list of its own."""
    result = []
    at = 0
    while at < len(given):
        result.append(given[at + 1:at + 1 + given[at]])
        at += 1 + given[at]
    assert at == len(given)
    return result


def ask(*calls):
    return apart(answers([number for call in calls for number in call]))


def run(code, most=PLENTY, own=None, common=None):
    """The answer to one run with these subroutines."""
    calls = []
    if own is not None:
        calls.append(subrs_call(0, own))
    if common is not None:
        calls.append(subrs_call(1, common))
    return ask(*calls, run_call(code, most))[-1]


def width_of(code):
    answer = run(code)
    return answer[1] if len(answer) > 1 else answer


def drawn(code, **more):
    """What is drawn, without its count and the width; a refusal as a plain number."""
    answer = run(code, **more)
    if len(answer) == 1:
        return answer[0]
    assert answer[0] == len(answer) - 2
    return answer[2:]


def in_path(code, **more):
    """What code draws behind a path that begins at (0, 0), and ahead of that path's close."""
    numbers = drawn(num(0) + [22] + code + [14], **more)
    if isinstance(numbers, int):
        return numbers
    assert numbers[:3] == [0, 0, 0] and numbers[-1] == 3
    return numbers[3:-1]


def units(numbers):
    """The same numbers in whole units; what is no whole unit is a fault."""
    assert all(number % U == 0 for number in numbers)
    return [number // U for number in numbers]


def shape(code):
    """What code draws from (0, 0), as (kind, place, ...) in whole units."""
    numbers = in_path(code)
    result = []
    at = 0
    while at < len(numbers):
        size = {0: 3, 1: 3, 2: 7, 3: 1}[numbers[at]]
        result.append((numbers[at],) + tuple(units(numbers[at + 1:at + size])))
        at += size
    return result


def walked(*pieces):
    """The shape of pieces given as lists of steps: one step for a line, three for a curve."""
    x = y = 0
    result = []
    for steps in pieces:
        places = []
        for dx, dy in steps:
            x += dx
            y += dy
            places += [x, y]
        result.append((1 if len(steps) == 1 else 2,) + tuple(places))
    return result


def stack_of(code, **more):
    """The numbers that code leaves on the stack, from the lowest on; a refusal as a plain number."""
    numbers = in_path(code + num(7) + [6], **more)
    if isinstance(numbers, int):
        return numbers
    x = y = 0
    result = []
    for i in range(0, len(numbers), 3):
        assert numbers[i] == 1
        result.append(numbers[i + 1] - x + numbers[i + 2] - y)
        x, y = numbers[i + 1:i + 3]
    assert result.pop() == 7 * U
    return result
