"""Patterns: rows of pieces, and what they show in front of a load."""

from rungladders.basics import is_integer_within, is_resistance, lowest_pair, lowest_terms, pair_of
from rungladders.errors import InvalidPieces, InvalidResistance, InvalidText, TooMany
from rungladders.limits import MOST_JOINED, MOST_OHMS, MOST_PIECES

WORDS = ("rail", "rung")


class JoinedRow:
    """A row of pieces that are known to be valid, and that may be more than callers pass to Pattern."""

    def __init__(self, row):
        self.row = row


class Pattern:
    """A row of pieces, the front one first."""

    def __init__(self, *pieces):
        self.row = checked_row(pieces)
        self.matrix, self.scale = matrix_and_scale(self.row)
        # These four are the same for all rows that show the same, so they tell which patterns are equal.
        self.four = tuple([lowest_terms(entry, self.scale) for entry in self.matrix])

    def __call__(self, load):
        """What the pattern shows in front of the load."""
        if not is_resistance(load):
            raise InvalidResistance(load)
        return lowest_pair(shown_before(self.matrix, pair_of(load)))

    @property
    def pieces(self):
        return self.row

    @property
    def numbers(self):
        return self.four

    def __add__(self, other):
        row = self.row + other.row
        if len(row) > MOST_JOINED:
            raise TooMany(MOST_JOINED)
        return Pattern(JoinedRow(row))

    def turned(self):
        """The pattern with the pieces in the opposite order."""
        return Pattern(JoinedRow(self.row[::-1]))

    def __eq__(self, other):
        return isinstance(other, Pattern) and self.four == other.four

    def __len__(self):
        return len(self.row)

    def __str__(self):
        return str(row_text(self.row))

    def __repr__(self):
        return f"Pattern({row_text(self.row)})"

    @staticmethod
    def read(text):
        """The pattern with this text."""
        if not isinstance(text, str):
            raise InvalidText(text)
        parts = text.split(", ")
        if len(parts) > MOST_JOINED:
            raise InvalidText(text)
        row = tuple([piece_with_text(part) for part in parts])
        if None in row:
            raise InvalidText(text)
        return Pattern(JoinedRow(row))


def checked_row(pieces):
    if len(pieces) == 1 and isinstance(pieces[0], JoinedRow):
        return pieces[0].row
    if len(pieces) < 1 or len(pieces) > MOST_PIECES:
        raise InvalidPieces(None)
    for at, piece in enumerate(pieces):
        if not is_piece(piece):
            raise InvalidPieces(at)
    return pieces


def is_piece(value):
    if not isinstance(value, tuple) or len(value) != 2:
        return False
    word, ohms = value
    # The kind comes first: what is no string may still say that it equals one.
    return isinstance(word, str) and word in WORDS and is_integer_within(ohms, 1, MOST_OHMS)


def matrix_and_scale(row):
    """The four fractions that belong to a row of pieces, all times one integer, and that integer."""
    a, b, c, d = 1, 0, 0, 1
    scale = 1
    for word, ohms in row:
        if word == "rail":
            b, d = a * ohms + b, c * ohms + d
        else:
            a, b, c, d = a * ohms + b, b * ohms, c * ohms + d, d * ohms
            scale = scale * ohms
    return ((a, b, c, d), scale)


def shown_before(matrix, pair):
    """What a pattern with this matrix shows in front of a fraction or an open end, not in lowest terms."""
    a, b, c, d = matrix
    # No case for open ends is needed: their bottom of 0 leaves a and c, and c is 0 for rails alone.
    top, bottom = pair
    return (a * top + b * bottom, c * top + d * bottom)


def row_text(row):
    return ", ".join([piece_text(word, ohms) for word, ohms in row])


def piece_text(word, ohms):
    return f"{word} {ohms}"


def piece_with_text(text):
    """The piece with this text, None if there is none."""
    for word in WORDS:
        for ohms in range(1, MOST_OHMS + 1):
            if text == piece_text(word, ohms):
                return (word, ohms)
    return None
