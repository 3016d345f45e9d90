"""Claims of nine forms with their certificates, checked by plain steps."""

from rungladders.basics import (
    is_count, is_integer, is_integer_within, is_pair_of_integers, is_resistance, pair_of, pair_order,
)
from rungladders.ladders import ladder_limit
from rungladders.limits import MOST_JOINED, MOST_KINDS, OPEN
from rungladders.parabolas import difference, never_below
from rungladders.patterns import is_piece, matrix_and_scale, shown_before


def is_number(value):
    """Whether this is a fraction, with integers of any size, or an open end."""
    if is_integer(value):
        return value >= 0
    return is_pair_of_integers(value) and (value == OPEN or (value[0] >= 0 and value[1] >= 1))


def is_row(value):
    """Whether these are the pieces of a pattern."""
    if not isinstance(value, tuple) or len(value) < 1 or len(value) > MOST_JOINED:
        return False
    return all([is_piece(piece) for piece in value])


def are_rows(value):
    """Whether these are the pieces of the kinds of a box."""
    if not isinstance(value, tuple) or len(value) < 1 or len(value) > MOST_KINDS:
        return False
    return all([is_row(row) for row in value])


def is_empty(value):
    return isinstance(value, tuple) and len(value) == 0


def is_order(value, count, many):
    """Whether these are so many indices of so many kinds."""
    if not isinstance(value, tuple) or len(value) != count:
        return False
    return all([is_integer_within(index, 0, many - 1) for index in value])


def matrix_of(row):
    return matrix_and_scale(row)[0]


def ladder_shows(matrix, load, count):
    pair = pair_of(load)
    for number in range(count):
        pair = shown_before(matrix, pair)
    return pair


def check_value(places, certificate):
    if len(places) != 4 or not is_empty(certificate):
        return False
    row, load, count, shown = places
    if not is_row(row) or not is_resistance(load) or not is_count(count) or not is_number(shown):
        return False
    return pair_order(ladder_shows(matrix_of(row), load, count), pair_of(shown)) == 0


def check_bound(places, certificate, sense):
    """Checks "most" (with 1) and "least" (with -1)."""
    if len(places) != 3 or not is_number(certificate):
        return False
    row, load, bound = places
    if not is_row(row) or not is_resistance(load) or not is_resistance(bound):
        return False
    # Nothing that the ladder shows can pass a number that its load has not passed and that the pattern leads back.
    middle = pair_of(certificate)
    steps = ((middle, pair_of(bound)), (pair_of(load), middle), (shown_before(matrix_of(row), middle), middle))
    return all([sense * pair_order(first, second) <= 0 for first, second in steps])


def check_most(places, certificate):
    return check_bound(places, certificate, 1)


def check_least(places, certificate):
    return check_bound(places, certificate, -1)


def check_apart(places, certificate):
    if len(places) != 5 or not is_number(certificate):
        return False
    row, load, other_row, other_load, count = places
    if not is_row(row) or not is_resistance(load) or not is_row(other_row) or not is_resistance(other_load):
        return False
    if not is_count(count):
        return False
    matrix, other_matrix, middle = matrix_of(row), matrix_of(other_row), pair_of(certificate)
    below = pair_order(ladder_shows(matrix, load, count), middle)
    above = pair_order(ladder_shows(other_matrix, other_load, count), middle)
    if below > 0 or above < 0 or below == above:
        return False
    kept_below = pair_order(shown_before(matrix, middle), middle) <= 0
    return kept_below and pair_order(shown_before(other_matrix, middle), middle) >= 0


def check_never(places, certificate):
    if len(places) != 2 or not is_empty(certificate) or not is_row(places[0]) or not is_row(places[1]):
        return False
    return never_below(difference(matrix_of(places[1]), matrix_of(places[0])), (0, 1), OPEN)


def check_more(places, certificate):
    if len(places) != 3 or not is_empty(certificate):
        return False
    row, other_row, load = places
    if not is_row(row) or not is_row(other_row) or not is_number(load):
        return False
    pair = pair_of(load)
    return pair_order(shown_before(matrix_of(row), pair), shown_before(matrix_of(other_row), pair)) > 0


def check_limit(places, certificate):
    if len(places) != 3 or not is_empty(certificate):
        return False
    row, load, told = places
    if not is_row(row) or not is_resistance(load) or not isinstance(told, tuple):
        return False
    # The kinds come first: True equals 1, but is no integer.
    if not all([is_integer(part) for part in told]):
        return False
    limit = ladder_limit(matrix_of(row))
    return told == (OPEN if limit == OPEN else limit.equation)


def check_box(places, certificate, sense):
    """Checks "greatest" (with 1) and "least of all" (with -1)."""
    if len(places) != 4:
        return False
    rows, load, count, shown = places
    if not are_rows(rows) or not is_resistance(load) or not is_count(count) or not is_number(shown):
        return False
    if not is_order(certificate, count, len(rows)):
        return False
    matrices = [matrix_of(row) for row in rows]
    best = in_order = pair_of(load)
    for index in certificate[::-1]:
        best = best_shown(matrices, best, sense)
        in_order = shown_before(matrices[index], in_order)
    return pair_order(best, pair_of(shown)) == 0 and pair_order(in_order, best) == 0


def best_shown(matrices, pair, sense):
    best = shown_before(matrices[0], pair)
    for matrix in matrices:
        shown = shown_before(matrix, pair)
        if sense * pair_order(shown, best) > 0:
            best = shown
    return best


def check_greatest(places, certificate):
    return check_box(places, certificate, 1)


def check_least_of_all(places, certificate):
    return check_box(places, certificate, -1)


CHECKS = {
    "value": check_value,
    "most": check_most,
    "least": check_least,
    "apart": check_apart,
    "never": check_never,
    "more": check_more,
    "limit": check_limit,
    "greatest": check_greatest,
    "least of all": check_least_of_all,
}


def accepts(claim, certificate):
    """Whether these are a claim and its certificate, and what is told there is so."""
    if not isinstance(claim, tuple) or len(claim) < 1 or not isinstance(claim[0], str):
        return False
    check = CHECKS.get(claim[0])
    if check is None:
        return False
    return check(claim[1:], certificate)
