"""Integers, fractions and resistances, as all modules of the package need them."""

from rungladders.limits import GREATEST, MOST_SECTIONS, OPEN

LETTERS = "abcdefghijklmnopqrstuvwxyz"
LONGEST_NAME = 8


def is_integer(value):
    return isinstance(value, int) and not isinstance(value, bool)


def is_integer_within(value, least, most):
    return is_integer(value) and least <= value <= most


def is_name(value):
    if not isinstance(value, str) or len(value) < 1 or len(value) > LONGEST_NAME:
        return False
    return all([letter in LETTERS for letter in value])


def is_count(value):
    return is_integer_within(value, 0, MOST_SECTIONS)


def is_pair_of_integers(value):
    return isinstance(value, tuple) and len(value) == 2 and is_integer(value[0]) and is_integer(value[1])


def is_resistance(value):
    if is_integer(value):
        return 0 <= value <= GREATEST
    # The kinds come first: (True, False) equals (1, 0), but is no open end.
    if not is_pair_of_integers(value):
        return False
    top, bottom = value
    return value == OPEN or (0 <= top <= GREATEST and 1 <= bottom <= GREATEST)


def pair_of(fraction_or_open):
    if is_integer(fraction_or_open):
        return (fraction_or_open, 1)
    return fraction_or_open


def common_divisor(first, second):
    """The greatest integer that divides both; of 0 and 0 it is 0."""
    high, low = abs(first), abs(second)
    while low > 0:
        high, low = low, high % low
    return high


def lowest_terms(top, bottom):
    divisor = common_divisor(top, bottom)
    return (top // divisor, bottom // divisor)


def lowest_pair(fraction_or_open):
    """A fraction in lowest terms, or an open end, as a pair."""
    top, bottom = pair_of(fraction_or_open)
    return lowest_terms(top, bottom)


def pair_order(first, second):
    """-1, 0 or 1, as the first pair is less than the second one, equal to it or greater; both may be open ends."""
    return sign(first[0] * second[1] - second[0] * first[1])


def fraction_text(top, bottom):
    """The text of a fraction in lowest terms."""
    if bottom == 1:
        return str(top)
    return f"{top}/{bottom}"


def resistance_text(pair):
    """The text of a fraction in lowest terms, or of an open end."""
    top, bottom = pair
    if bottom == 0:
        return "open"
    return fraction_text(top, bottom)


def sign(number):
    if number > 0:
        return 1
    if number < 0:
        return -1
    return 0


def square_root(number):
    """The greatest integer whose square is at most this number of at least 0."""
    # Newton's steps fall towards the root only if they begin above it.
    guess = 1 << ((number.bit_length() + 1) // 2)
    while guess * guess > number:
        guess = (guess + number // guess) // 2
    return guess
