"""Checks of names and numbers that several files need."""

from harvestcarts.errors import InvalidNumber

LETTERS = "abcdefghijklmnopqrstuvwxyz"
LAST_DAY = 10 ** 18
MAX_CARTS = 6
MAX_NAME = 8


def is_number(value, low, high):
    """Tell whether a value is an integer, and no boolean, from low to high."""
    return isinstance(value, int) and not isinstance(value, bool) and low <= value <= high


def check_number(value, low, high):
    """Raise InvalidNumber unless the value is an integer from low to high."""
    if not is_number(value, low, high):
        raise InvalidNumber(f"{value!r} is not an integer from {low} to {high}")


def is_name(word):
    """Tell whether a word is a name: one to eight letters a to z."""
    return isinstance(word, str) and 1 <= len(word) <= MAX_NAME and all([letter in LETTERS for letter in word])
