"""Decimal forms of integers."""

from hullwright.errors import BadText

MOST_DIGITS = 60


def write_integer(number):
    """Return the decimal form of an integer of any size."""
    if number < 0:
        return "-" + write_integer(-number)
    # Python refuses to turn very long integers into text at once, so it is done block by block.
    limit = 10 ** 60
    blocks = []
    while number >= limit:
        number, block = divmod(number, limit)
        blocks.append(str(block).zfill(60))
    blocks.append(str(number))
    return "".join(reversed(blocks))


def read_integer(text, most_digits):
    """Return the integer with a decimal form, which has at most so many digits."""
    digits = text[1:] if text.startswith("-") else text
    if len(digits) > most_digits or not is_number(digits) or text == "-0":
        raise BadText("not the decimal form of an integer")
    return int(text)


def is_number(digits):
    """Tell whether a text is the decimal form of an integer that is not negative."""
    if digits == "" or not all(digit in "0123456789" for digit in digits):
        return False
    return digits == "0" or digits[0] != "0"
