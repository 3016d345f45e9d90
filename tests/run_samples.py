"""Runs of all sorts, drawn always in the same way, beside what the model tells of them."""

from random import Random

from model import ALL_PIECES, box_run_of, run_of
from rungladders.boxes import Box
from rungladders.ladders import Ladder
from rungladders.patterns import Pattern

MOST = 10 ** 12


class Drawer:
    def __init__(self, seed):
        self.random = Random(seed)

    def row(self, longest=4):
        return tuple(self.random.choice(ALL_PIECES) for _ in range(self.random.randint(1, longest)))

    def row_of(self, word, longest=3):
        return tuple((word, self.random.randint(1, 12)) for _ in range(self.random.randint(1, longest)))

    def load(self):
        draw = self.random.randrange
        return self.random.choice([
            (1, 0), 0, draw(20), draw(MOST + 1), (draw(MOST + 1), draw(1, MOST + 1)), (draw(1, 100), draw(MOST // 2, MOST)),
            (draw(40), draw(1, 13)), (draw(40), draw(1, 13)),
        ])

    def ladder(self):
        return LadderSample(self.row(), self.load())

    def box_run(self, most_kinds=4):
        rows = [self.row(3) for _ in range(self.random.randint(1, most_kinds))]
        return BoxSample(rows, self.load(), self.random.choice((1, -1)))

    def run(self):
        return self.box_run() if self.random.randrange(4) == 0 else self.ladder()


class LadderSample:
    def __init__(self, row, load):
        self.row, self.load = row, load
        self.run = Ladder(pattern_of(row), load)

    def shown(self, count):
        return run_of(self.row, self.load, count)

    def __repr__(self):
        return f"Ladder of {self.row} with {self.load}"


class BoxSample:
    def __init__(self, rows, load, sense):
        self.rows, self.load, self.sense = rows, load, sense
        box = Box(*[pattern_of(row) for row in rows])
        self.run = box.greatest(load) if sense == 1 else box.least(load)

    def shown(self, count):
        return box_run_of(self.rows, self.load, count, self.sense)[0]

    def __repr__(self):
        return f"Box of {self.rows} with {self.load}, {self.sense}"


def pattern_of(row):
    """The pattern of one to eight pieces."""
    return Pattern(*row) if len(row) <= 4 else Pattern(*row[:4]) + Pattern(*row[4:])


def row_with(text):
    return Pattern.read(text).pieces
