"""Decimal numbers in texts, of any length.

Python itself refuses to turn numbers with very many digits into texts and back, so
this is done piece by piece.
"""

from promiseplay.signals import is_digit

# The number of digits of a piece, and the first number that has more digits.
PIECE = 64
BASE = 10 ** 64


def is_number(text):
    """Whether a text is a decimal number without leading zeros."""
    if text == "" or not all([is_digit(character) for character in text]):
        return False
    return text[0] != "0" or text == "0"


def numeral(number):
    """The decimal number that writes an integer of at least 0."""
    # Each power is the square of the one ahead of it.
    powers = [BASE]
    while powers[-1] <= number:
        powers.append(powers[-1] * powers[-1])
    text = all_digits(number, powers[:-1])
    return text.lstrip("0") if number > 0 else "0"


def all_digits(number, powers):
    """The digits of a number that is below the square of the last power, with zeros in front of them."""
    if not powers:
        return str(number).zfill(PIECE)
    high, low = divmod(number, powers[-1])
    return all_digits(high, powers[:-1]) + all_digits(low, powers[:-1])


def number_in(text):
    """The integer that a decimal number writes."""
    first = len(text) % PIECE
    number = int("0" + text[:first])
    for start in range(first, len(text), PIECE):
        number = number * BASE + int(text[start:start + PIECE])
    return number


def small_number(text, most):
    """The integer that a text writes if it is a decimal number without leading zeros of at most so much, or None."""
    if not is_number(text):
        return None
    number = number_in(text)
    return number if number <= most else None
