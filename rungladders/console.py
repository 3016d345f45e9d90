"""A bench that is asked and changed by lines of text."""

from rungladders.basics import is_name, lowest_pair, resistance_text
from rungladders.benches import Bench
from rungladders.comparing import less
from rungladders.errors import InvalidText, UnknownName
from rungladders.ladders import Ladder
from rungladders.limits import GREATEST, MOST_SECTIONS, OPEN
from rungladders.patterns import Pattern

FIGURES = "0123456789"


def set_pattern(bench, values):
    name, pattern = values
    bench[name] = pattern
    return str(pattern)


def set_joined(bench, values):
    name, front, back = values
    return set_pattern(bench, (name, bench[front] + bench[back]))


def set_turned(bench, values):
    name, front = values
    pattern = bench[front]
    return set_pattern(bench, (name, pattern.turned()))


def drop_name(bench, values):
    bench.drop(values[0])
    return "ok"


def take_back(bench, values):
    bench.undo()
    return "ok"


def claim_never(bench, values):
    bench.claim(("never", *values))
    return "ok"


def claim_same(bench, values):
    bench.claim(("same", *values))
    return "ok"


def claim_most(bench, values):
    bench.claim(("most", *values))
    return "ok"


def claim_least(bench, values):
    bench.claim(("least", *values))
    return "ok"


def tell_shown(bench, values):
    name, load, count = values
    run = Ladder(bench[name], load)
    return resistance_text(run(count))


def tell_limit(bench, values):
    name, load = values
    limit = Ladder(bench[name], load).limit
    return resistance_text(OPEN) if limit == OPEN else str(limit)


def tell_less(bench, values):
    name, load, other_name, other_load = values
    return str(less(Ladder(bench[name], load), Ladder(bench[other_name], other_load)))


# The words in capital letters stand for values; NEW is a name that need not be one of the bench.
ACTIONS = {
    "NEW = PATTERN": set_pattern,
    "NEW = NAME + NAME": set_joined,
    "NEW = NAME turned": set_turned,
    "drop NAME": drop_name,
    "undo": take_back,
    "NAME never NAME": claim_never,
    "NAME same NAME": claim_same,
    "NAME most OHMS OHMS": claim_most,
    "NAME least OHMS OHMS": claim_least,
    "NAME before OHMS at COUNT": tell_shown,
    "NAME limit OHMS": tell_limit,
    "NAME less OHMS NAME OHMS": tell_less,
}


class Console:
    """Keeps a bench, and executes lines."""

    def __init__(self):
        self.table = Bench()

    @property
    def bench(self):
        return self.table

    def say(self, line):
        """Executes the line, and tells what came of it."""
        words = words_of(line)
        for form in ACTIONS:
            values = values_in(words, form.split(" "))
            if values is not None:
                self.check_names(form.split(" "), words)
                action = ACTIONS[form]
                return action(self.table, values)
        raise InvalidText(line)

    def check_names(self, form, words):
        for place, word in zip(form, words):
            if place == "NAME" and word not in self.table:
                raise UnknownName(word)


def words_of(line):
    """The words of a line; what is behind `=` is one word if it is the text of a pattern."""
    if not isinstance(line, str):
        return []
    name, between, text = line.partition(" = ")
    if between and pattern_with_text(text) is not None:
        return [name, "=", text]
    return line.split(" ")


def values_in(words, form):
    """The values that stand in the places of a form, None if the words do not have this form."""
    if len(words) != len(form):
        return None
    values = []
    for word, place in zip(words, form):
        if place in READERS:
            reader = READERS[place]
            value = reader(word)
            if value is None:
                return None
            values.append(value)
        elif word != place:
            return None
    return tuple(values)


def name_with_text(text):
    return text if is_name(text) else None


def pattern_with_text(text):
    try:
        return Pattern.read(text)
    except InvalidText:
        return None


def ohms_with_text(text):
    """The pair of the resistance with this text, None if there is none."""
    if text == resistance_text(OPEN):
        return OPEN
    top_text, stroke, bottom_text = text.partition("/")
    top = integer_with_text(top_text, GREATEST)
    bottom = integer_with_text(bottom_text, GREATEST) if stroke else 1
    if top is None or bottom is None or bottom == 0:
        return None
    # Each fraction has just one text, that of its lowest terms.
    return (top, bottom) if resistance_text(lowest_pair((top, bottom))) == text else None


def count_with_text(text):
    return integer_with_text(text, MOST_SECTIONS)


def integer_with_text(text, most):
    """The integer with this text, None if there is none or it is greater than the most."""
    if len(text) < 1 or len(text) > len(str(most)):
        return None
    if not all([figure in FIGURES for figure in text]):
        return None
    number = int(text)
    return number if number <= most and str(number) == text else None


READERS = {
    "NEW": name_with_text,
    "NAME": name_with_text,
    "PATTERN": pattern_with_text,
    "OHMS": ohms_with_text,
    "COUNT": count_with_text,
}
