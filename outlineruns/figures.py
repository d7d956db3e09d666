"""Numbers of 16.16: their bounds, their whole parts, and how bytes write them."""

ONE = 65536
LEAST = -2147483648
GREATEST = 2147483647

SHORT_NUMBER = 28
LEAST_NUMBER_BYTE = 32


def within_bits(number):
    return LEAST <= number <= GREATEST


def whole_part(number):
    return number // ONE


def begins_number(first):
    return first >= LEAST_NUMBER_BYTE or first == SHORT_NUMBER


def bytes_behind(first):
    """How many bytes a number has behind its first one."""
    if first == SHORT_NUMBER:
        return 2
    if first <= 246:
        return 0
    if first <= 254:
        return 1
    return 4


def number_of(first, behind):
    """The number that these bytes write."""
    if first == SHORT_NUMBER:
        return signed(behind) * ONE
    if first <= 246:
        return (first - 139) * ONE
    if first <= 250:
        return ((first - 247) * 256 + behind[0] + 108) * ONE
    if first <= 254:
        return (-(first - 251) * 256 - behind[0] - 108) * ONE
    # This form alone tells the bits of the number itself, so it is not scaled.
    return signed(behind)


def signed(digits):
    """The bytes as one number with a sign, the high byte first."""
    number = digits[0]
    if number >= 128:
        number -= 256
    for digit in digits[1:]:
        number = number * 256 + digit
    return number
