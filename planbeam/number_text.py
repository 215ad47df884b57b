"""The texts of numbers, which are lists of bytes: reads those that are handed over, writes exact ones."""

from planbeam.ratio import Ratio

MINUS = 45
POINT = 46
SLASH = 47
NOUGHT = 48
NINE = 57
LONGEST_NUMBER = 512


def digits_end(text, start):
    """The place behind the digits that stand from start on."""
    place = start
    while place < len(text) and NOUGHT <= text[place] <= NINE:
        place = place + 1
    return place


def digits_value(digits):
    """The whole number that a row of digits tells."""
    value = 0
    for digit in digits:
        value = value * 10 + digit - NOUGHT
    return value


def power_of_ten(exponent):
    """1 with that many noughts behind it."""
    value = 1
    for place in range(exponent):
        value = value * 10
    return value


def read_size(whole, tail):
    """The ratio of some digits and what stands behind them, None if that is not as it must be."""
    if len(tail) == 0:
        return Ratio(digits_value(whole), 1)
    digits = tail[1:]
    if len(digits) == 0 or digits_end(digits, 0) < len(digits):
        return None
    if tail[0] == POINT:
        return Ratio(digits_value(whole + digits), power_of_ten(len(digits)))
    if tail[0] == SLASH and digits_value(digits) != 0:
        return Ratio(digits_value(whole), digits_value(digits))
    return None


def read_number(text):
    """The ratio that a number handed over tells, None if the text is no such number."""
    # So short a text has no room for more than 1,300 digits: that limit needs no look of its own.
    if len(text) > LONGEST_NUMBER:
        return None
    start = 1 if text[:1] == [MINUS] else 0
    whole_end = digits_end(text, start)
    if whole_end == start:
        return None
    size = read_size(text[start:whole_end], text[whole_end:])
    if size is None or start == 0:
        return size
    return Ratio(-size.top, size.bottom)


def exact_text(ratio):
    """The exact text of a ratio."""
    text = str(ratio.top)
    if ratio.bottom != 1:
        text = text + "/" + str(ratio.bottom)
    return [ord(sign) for sign in text]
