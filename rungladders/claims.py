"""Claims about patterns that stand under names, and whether they hold."""

from rungladders.basics import is_resistance, pair_of, pair_order
from rungladders.comparing import never_more
from rungladders.exact import limit_beside
from rungladders.ladders import ladder_limit

WORDS_FOR_PAIRS = ("never", "same")
WORDS_FOR_BOUNDS = ("most", "least")


def is_claim(value):
    """Whether this has one of the four forms, whatever stands in the places of the names."""
    if not isinstance(value, tuple) or len(value) < 1 or not isinstance(value[0], str):
        return False
    if value[0] in WORDS_FOR_PAIRS:
        return len(value) == 3
    return value[0] in WORDS_FOR_BOUNDS and len(value) == 4 and is_resistance(value[2]) and is_resistance(value[3])


def names_of(claim):
    return claim[1:3] if claim[0] in WORDS_FOR_PAIRS else claim[1:2]


def holds(claim, patterns):
    """Whether the claim is so with these patterns by their names."""
    word = claim[0]
    pattern = patterns[claim[1]]
    if word == "never":
        return never_more(pattern, patterns[claim[2]])
    if word == "same":
        return pattern == patterns[claim[2]]
    return stays_beside(pattern, pair_of(claim[2]), pair_of(claim[3]), 1 if word == "most" else -1)


def stays_beside(pattern, load, bound, sense):
    """Whether the ladder shows at most the bound at all numbers (with 1), or at least the bound (with -1)."""
    # What the ladder shows lies between its load, which it shows, and its limit, which it comes near to.
    limit = ladder_limit(pattern.matrix)
    return sense * pair_order(load, bound) <= 0 and sense * limit_beside(limit, bound) <= 0
