"""What several modules check of their arguments."""

from rungladders.basics import is_count, is_resistance
from rungladders.errors import InvalidCount, InvalidResistance, NotAPattern
from rungladders.patterns import Pattern


def check_pattern(value):
    if not isinstance(value, Pattern):
        raise NotAPattern(value)


def check_resistance(value):
    if not is_resistance(value):
        raise InvalidResistance(value)


def check_count(value):
    if not is_count(value):
        raise InvalidCount(value)
