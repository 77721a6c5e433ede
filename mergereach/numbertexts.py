"""Decimal texts of integers."""

DIGITS = "0123456789"

# Both directions go digit by digit: Python itself converts no integer of more than 4300 digits,
# and the counters that picks produce have no greatest length.


def number_text(number):
    """Returns the decimal text of the integer."""
    digits = []
    rest = abs(number)
    while rest >= 10:
        rest, last = divmod(rest, 10)
        digits.append(DIGITS[last])
    digits.append(DIGITS[rest])
    sign = "-" if number < 0 else ""
    return sign + "".join(digits[::-1])


def is_number_text(text):
    """Returns whether the string is the decimal text of an integer."""
    digits = text.removeprefix("-")
    if digits == "" or not all([digit in DIGITS for digit in digits]):
        return False
    return text == "0" or not digits.startswith("0")


def number_of(text):
    """Returns the integer with this decimal text."""
    number = 0
    for digit in text.removeprefix("-"):
        number = number * 10 + DIGITS.index(digit)
    return -number if text.startswith("-") else number
