"""What the operators that draw make of their numbers.

A piece is a list of steps (dx, dy): a line has one step, a curve three. Each function of the table
answers its pieces in order, or None if there are not as many numbers as the operator asks for.
"""


def steps_of(numbers):
    return [(numbers[i], numbers[i + 1]) for i in range(0, len(numbers), 2)]


def lines_of(numbers):
    return [[step] for step in steps_of(numbers)]


def curves_of(numbers):
    steps = steps_of(numbers)
    return [steps[i:i + 3] for i in range(0, len(steps), 3)]


def fours_of(numbers):
    return [numbers[i:i + 4] for i in range(0, len(numbers), 4)]


def is_fours_or_one_more(count):
    return count >= 4 and count % 4 <= 1


def lines(numbers):
    if len(numbers) < 2 or len(numbers) % 2 != 0:
        return None
    return lines_of(numbers)


def lines_in_turn(numbers, along_x):
    if len(numbers) < 1:
        return None
    pieces = []
    for d in numbers:
        pieces.append([(d, 0)] if along_x else [(0, d)])
        along_x = not along_x
    return pieces


def lines_from_x(numbers):
    return lines_in_turn(numbers, True)


def lines_from_y(numbers):
    return lines_in_turn(numbers, False)


def curves(numbers):
    if len(numbers) < 6 or len(numbers) % 6 != 0:
        return None
    return curves_of(numbers)


def curves_then_line(numbers):
    if len(numbers) < 8 or len(numbers) % 6 != 2:
        return None
    return curves_of(numbers[:-2]) + lines_of(numbers[-2:])


def lines_then_curve(numbers):
    if len(numbers) < 8 or len(numbers) % 2 != 0:
        return None
    return lines_of(numbers[:-6]) + curves_of(numbers[-6:])


def level_curves(numbers):
    if not is_fours_or_one_more(len(numbers)):
        return None
    more = len(numbers) % 4
    y = numbers[0] if more == 1 else 0
    pieces = []
    for four in fours_of(numbers[more:]):
        pieces.append([(four[0], y), (four[1], four[2]), (four[3], 0)])
        y = 0
    return pieces


def standing_curves(numbers):
    if not is_fours_or_one_more(len(numbers)):
        return None
    more = len(numbers) % 4
    x = numbers[0] if more == 1 else 0
    pieces = []
    for four in fours_of(numbers[more:]):
        pieces.append([(x, four[0]), (four[1], four[2]), (0, four[3])])
        x = 0
    return pieces


def flat_curve(four, e):
    return [(four[0], 0), (four[1], four[2]), (e, four[3])]


def upright_curve(four, e):
    return [(0, four[0]), (four[1], four[2]), (four[3], e)]


def curves_in_turn(numbers, flat):
    count = len(numbers)
    if not is_fours_or_one_more(count):
        return None
    pieces = []
    fours = fours_of(numbers[:count - count % 4])
    for i, four in enumerate(fours):
        e = numbers[-1] if count % 4 == 1 and i == len(fours) - 1 else 0
        pieces.append(flat_curve(four, e) if flat else upright_curve(four, e))
        flat = not flat
    return pieces


def curves_from_flat(numbers):
    return curves_in_turn(numbers, True)


def curves_from_upright(numbers):
    return curves_in_turn(numbers, False)


def two_curves_of_seven(numbers):
    if len(numbers) != 7:
        return None
    c = numbers[2]
    first = [(numbers[0], 0), (numbers[1], c), (numbers[3], 0)]
    second = [(numbers[4], 0), (numbers[5], -c), (numbers[6], 0)]
    return [first, second]


def two_curves_of_thirteen(numbers):
    if len(numbers) != 13:
        return None
    return curves_of(numbers[:12])


def two_curves_of_nine(numbers):
    if len(numbers) != 9:
        return None
    back = -(numbers[1] + numbers[3] + numbers[7])
    first = [(numbers[0], numbers[1]), (numbers[2], numbers[3]), (numbers[4], 0)]
    second = [(numbers[5], 0), (numbers[6], numbers[7]), (numbers[8], back)]
    return [first, second]


def two_curves_of_eleven(numbers):
    if len(numbers) != 11:
        return None
    steps = steps_of(numbers[:10])
    across = sum([step[0] for step in steps])
    along = sum([step[1] for step in steps])
    z = numbers[10]
    steps.append((z, -along) if abs(across) > abs(along) else (-across, z))
    return [steps[:3], steps[3:]]


# Here and in the other tables an operator of two bytes, 12 and b, is written as 1200 + b.
PIECES = {
    5: lines,
    6: lines_from_x,
    7: lines_from_y,
    8: curves,
    24: curves_then_line,
    25: lines_then_curve,
    26: standing_curves,
    27: level_curves,
    30: curves_from_upright,
    31: curves_from_flat,
    1234: two_curves_of_seven,
    1235: two_curves_of_thirteen,
    1236: two_curves_of_nine,
    1237: two_curves_of_eleven,
}
