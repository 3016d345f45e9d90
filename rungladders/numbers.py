"""Sets of numbers of sections, which may have no end."""

from rungladders.basics import is_count, is_integer
from rungladders.errors import InvalidCount, InvalidStretches


class Numbers:
    """A set of integers from 0 on, told by its stretches (first, last) and (first, None)."""

    def __init__(self, *stretches):
        least = 0
        for at, stretch in enumerate(stretches):
            if least is None or not is_stretch(stretch, least):
                raise InvalidStretches(at)
            least = least_first_behind(stretch)
        # Stretches that touch are not accepted, so equal sets have equal stretches.
        self.held = stretches

    @property
    def stretches(self):
        return self.held

    @property
    def smallest(self):
        if not self.held:
            return None
        return self.held[0][0]

    @property
    def endless(self):
        if not self.held:
            return False
        return self.held[-1][1] is None

    def ascending(self, count):
        """The first numbers of the set, so many, or all of them if there are fewer."""
        if not is_count(count):
            raise InvalidCount(count)
        left = count
        for first, last in self.held:
            end = first + left if last is None else min(first + left, last + 1)
            for number in range(first, end):
                yield number
            left -= end - first

    def __contains__(self, x):
        return is_integer(x) and any([lies_within(x, stretch) for stretch in self.held])

    def __and__(self, other):
        row = common(self.held, other.held)
        return Numbers(*row)

    def __or__(self, other):
        row = gaps(common(gaps(self.held), gaps(other.held)))
        return Numbers(*row)

    def __sub__(self, other):
        row = common(self.held, gaps(other.held))
        return Numbers(*row)

    def __invert__(self):
        row = gaps(self.held)
        return Numbers(*row)

    def __eq__(self, other):
        return isinstance(other, Numbers) and self.held == other.held

    def __bool__(self):
        return bool(self.held)

    def __str__(self):
        return str(stretches_text(self.held))

    def __repr__(self):
        return f"Numbers({stretches_text(self.held)})"


def is_stretch(value, least):
    """Whether this is a stretch that begins with this number or behind it."""
    if not isinstance(value, tuple) or len(value) != 2:
        return False
    first, last = value
    if not is_integer(first) or first < least:
        return False
    return last is None or (is_integer(last) and first <= last)


def least_first_behind(stretch):
    """The least number with which the next stretch may begin, None if there may be none."""
    last = stretch[1]
    if last is None:
        return None
    return last + 2


def lies_within(number, stretch):
    first, last = stretch
    return first <= number and (last is None or number <= last)


def common(row, other_row):
    """The stretches of the numbers that both rows of stretches hold."""
    # Pair by pair they come out ascending, and never touch, as the stretches of one row do not.
    found = []
    for first, last in row:
        for other_first, other_last in other_row:
            begin = max(first, other_first)
            end = earlier_end(last, other_last)
            if end is None or begin <= end:
                found.append((begin, end))
    return tuple(found)


def earlier_end(last, other_last):
    if last is None:
        return other_last
    if other_last is None:
        return last
    return min(last, other_last)


def gaps(row):
    """The stretches of the numbers from 0 on that these stretches do not hold."""
    found = []
    begin = 0
    for first, last in row:
        if begin < first:
            found.append((begin, first - 1))
        if last is None:
            return tuple(found)
        begin = last + 1
    found.append((begin, None))
    return tuple(found)


def stretches_text(row):
    if not row:
        return "none"
    return ", ".join([stretch_text(first, last) for first, last in row])


def stretch_text(first, last):
    if last is None:
        return f"from {first}"
    if first == last:
        return str(first)
    return f"{first} to {last}"
