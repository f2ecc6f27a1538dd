"""Decimal numbers in texts."""

from promiseplay.signals import is_digit


def is_number(text):
    """Whether a text is a decimal number without leading zeros."""
    if text == "" or not all([is_digit(character) for character in text]):
        return False
    return text[0] != "0" or text == "0"
