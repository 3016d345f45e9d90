"""What the document says of pieces, with Fractions and one step after another, apart from the package."""

from fractions import Fraction
from math import gcd

OPEN = (1, 0)


def number_of(resistance):
    """A Fraction, or OPEN."""
    if resistance == OPEN:
        return OPEN
    return Fraction(resistance) if isinstance(resistance, int) else Fraction(*resistance)


def pair_from(number):
    return OPEN if number == OPEN else (number.numerator, number.denominator)


def piece_shows(piece, number):
    word, ohms = piece
    if word == "rail":
        return OPEN if number == OPEN else number + ohms
    return Fraction(ohms) if number == OPEN else ohms * number / (ohms + number)


def row_shows(row, number):
    for piece in reversed(row):
        number = piece_shows(piece, number)
    return number


def run_of(row, load, count):
    """R(0) to R(count), as pairs."""
    number = number_of(load)
    told = [pair_from(number)]
    for _ in range(count):
        number = row_shows(row, number)
        told.append(pair_from(number))
    return told


def box_run_of(rows, load, count, sense):
    """R(0) to R(count) of the greatest (1) or least (-1) run, as pairs, and which kinds are taken at 1, 2, and so on."""
    pair = pair_from(number_of(load))
    told, taken = [pair], []
    for _ in range(count):
        shown = [pair_from(row_shows(row, number_of(pair))) for row in rows]
        pair = shown[0]
        for other in shown:
            if sense * order_of(other, pair) > 0:
                pair = other
        told.append(pair)
        taken.append([at for at, other in enumerate(shown) if other == pair])
    return told, taken


def fast_run_of(row, load, count):
    """R(0) to R(count), as pairs that need not be in lowest terms, for great counts."""
    a, b, c, d = 1, 0, 0, 1
    for word, ohms in row:
        if word == "rail":
            b, d = a * ohms + b, c * ohms + d
        else:
            a, b, c, d = a * ohms + b, b * ohms, c * ohms + d, d * ohms
    common = gcd(a, b, c, d)
    a, b, c, d = a // common, b // common, c // common, d // common
    top, bottom = (load, 1) if isinstance(load, int) else load
    told = [(top, bottom)]
    for _ in range(count):
        top, bottom = a * top + b * bottom, c * top + d * bottom
        told.append((top, bottom))
    return told


def order_of(first, second):
    """-1, 0 or 1 for two pairs, of which each may be an open end."""
    apart = first[0] * second[1] - second[0] * first[1]
    return (apart > 0) - (apart < 0)


def text_of(row):
    return ", ".join("{} {}".format(*piece) for piece in row)


ALL_PIECES = [(word, ohms) for word in ("rail", "rung") for ohms in range(1, 13)]


def mixed_rows(length, many):
    """So many rows with this number of pieces, of all kinds of pieces, always the same ones."""
    seed, rows = 7 * length + 1, []
    for _ in range(many):
        row = []
        for _ in range(length):
            seed = seed * 48271 % 2147483647
            row.append(ALL_PIECES[seed // 7 % 24])
        rows.append(tuple(row))
    return rows
