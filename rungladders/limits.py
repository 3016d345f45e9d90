"""The bounds that the package sets, and the open end."""

MOST_OHMS = 12
MOST_PIECES = 4
MOST_JOINED = 8
MOST_KINDS = 4
MOST_SECTIONS = 100
LAST = 1000
GREATEST = 10 ** 12
OPEN = (1, 0)
