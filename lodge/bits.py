"""Rows of bits: texts of the signs 0 and 1, with numbers written in them."""

from lodge.errors import NoBits


def is_below(number, limit):
    # Python has True and False as ints; neither stands for a number here.
    return not isinstance(number, bool) and 0 <= number < limit


def two_to(width):
    power = 1
    for turn in range(width):
        power = power * 2
    return power


def number_written(number, width):
    signs = ""
    rest = number
    for turn in range(width):
        signs = str(rest % 2) + signs
        rest = rest // 2
    return signs


def written(numbers, width):
    limit = two_to(width)
    for place, number in enumerate(numbers):
        if not is_below(number, limit):
            raise NoBits(place)
    return "".join([number_written(number, width) for number in numbers])


def is_multiple(length, width):
    # Without this a width of 0, which is no refusal by itself, would divide by 0.
    if width < 1:
        return length == 0
    return length % width == 0


def look_bits(bits, width):
    for place, sign in enumerate(bits):
        if sign != "0" and sign != "1":
            raise NoBits(place)
    if not is_multiple(len(bits), width):
        raise NoBits(len(bits))


def number_read(bits):
    number = 0
    for sign in bits:
        number = 2 * number + (1 if sign == "1" else 0)
    return number


def read_bits(bits, width):
    look_bits(bits, width)
    numbers = []
    start = 0
    while start < len(bits):
        numbers.append(number_read(bits[start:start + width]))
        start = start + width
    return numbers


def ones_before(bits, place):
    # A slice counts places below 0 from the row's end, and nothing stands ahead of them.
    return bits[:max(place, 0)].count("1")


def width_for(number):
    return max((number - 1).bit_length(), 1)
