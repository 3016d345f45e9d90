"""Rows of stretches, all of other sets, and what they hold."""

GREAT = 10 ** 30

NUMBER_ROWS = [
    (),
    ((0, 0),), ((1, 1),), ((2, 2),), ((7, 7),), ((99, 99),), ((GREAT, GREAT),),
    ((0, 1),), ((0, 2),), ((2, 5),), ((1, 100),), ((0, GREAT),), ((3, GREAT),), ((GREAT - 1, GREAT),),
    ((0, None),), ((1, None),), ((2, None),), ((9, None),), ((GREAT, None),), ((GREAT + 1, None),),
    ((0, 0), (2, 2)), ((0, 2), (5, None)), ((1, 3), (5, 9)), ((0, 5), (GREAT, GREAT)), ((7, 7), (9, None)),
    ((5, GREAT), (GREAT + 2, None)), ((0, 0), (2, None)),
    ((0, 0), (2, 2), (4, 4)), ((1, 1), (3, 6), (8, None)), ((2, 4), (6, GREAT - 2), (GREAT, None)), ((0, 3), (5, 5), (7, 20)),
    ((0, 0), (2, 2), (4, 4), (6, None)), ((1, 2), (4, 5), (7, 8), (10, 11)), ((3, 3), (10, 20), (30, 30), (GREAT, GREAT + 5)),
    ((0, 0), (2, 2), (4, 5), (7, 7), (9, 11)), ((1, 2), (4, 4), (6, 6), (8, 9), (11, None)),
    ((0, 9), (20, 29), (40, 49), (60, 69), (GREAT, None)),
]


def is_held(row, number):
    return any(first <= number and (last is None or number <= last) for first, last in row)


def beside_ends(*rows):
    """The integers at and beside each end, and around 0."""
    ends = {0, *(end for row in rows for stretch in row for end in stretch if end is not None)}
    return sorted({end + step for end in ends for step in range(-2, 3)})


def first_numbers(row, count):
    found = []
    for first, last in row:
        number = first
        while len(found) < count and (last is None or number <= last):
            found.append(number)
            number += 1
    return found
