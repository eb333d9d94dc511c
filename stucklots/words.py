"""What any value is: a name, a number, a point, a direction, a way; and how numbers and lines stand in texts."""

from math import gcd

LETTERS = "abcdefghijklmnopqrstuvwxyz"
DIGITS = "0123456789"
MOST_LETTERS = 6
MOST_DIGITS = 9
POINT_BOUND = 200
DIRECTION_BOUND = 999


def is_name(value):
    """Whether any value is a name: 1 to 6 lowercase letters."""
    if not isinstance(value, str) or not 1 <= len(value) <= MOST_LETTERS:
        return False
    return all([letter in LETTERS for letter in value])


def is_name_row(value):
    """Whether any value is an ascending tuple of one name or more."""
    if not isinstance(value, tuple) or len(value) == 0 or not all([is_name(name) for name in value]):
        return False
    return list(value) == sorted(set(value))


def is_any_number(value):
    """Whether any value is a number, however great."""
    # To Python True and False are integers, to the document they are no numbers.
    return isinstance(value, int) and not isinstance(value, bool)


def is_number(value, least, most):
    """Whether any value is a number from least to most."""
    return is_any_number(value) and least <= value <= most


def is_number_pair(value):
    """Whether any value is a tuple of two numbers, however great."""
    return isinstance(value, tuple) and len(value) == 2 and all([is_any_number(item) for item in value])


def is_bounded_pair(value, bound):
    """Whether any value is a tuple of two numbers from -bound to bound."""
    return is_number_pair(value) and all([-bound <= item <= bound for item in value])


def is_point(value):
    """Whether any value is a point."""
    return is_bounded_pair(value, POINT_BOUND)


def is_direction(value):
    """Whether any value is a direction."""
    # The divisor of (0, 0) is 0, so this pair is none, too.
    return is_bounded_pair(value, DIRECTION_BOUND) and gcd(value[0], value[1]) == 1


def is_way(value):
    """Whether any value is a way: a pair of a point and a direction."""
    return isinstance(value, tuple) and len(value) == 2 and is_point(value[0]) and is_direction(value[1])


def number_in(text):
    """The number that a string writes, with at most 9 digits; None for any other value."""
    if not isinstance(text, str):
        return None
    digits = text.removeprefix("-")
    if not 1 <= len(digits) <= MOST_DIGITS or not all([digit in DIGITS for digit in digits]):
        return None
    if digits[0] == "0" and text != "0":
        return None
    return int(text)


def numbers_told(pairs):
    """The numbers of some pairs as words with one space between."""
    return " ".join([str(number) for pair in pairs for number in pair])


def lines_told(lines):
    """The text of some lines, each with its line feed."""
    return "".join([f"{line}\n" for line in lines])
