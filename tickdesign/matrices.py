"""Matrices told by numbers: read, refused, brought to whole numbers."""

from tickdesign.refusals import NoMatrix
from tickdesign.whole import common_multiple

MOST_ROWS = 9
MOST_STATES = 8
# 10 to the power of 40: entries are told by numbers below it in size.
ENTRY_LIMIT = 10000000000000000000000000000000000000000


# The rows of the matrix, each a list of entries.
def read_matrix(numbers):
    if len(numbers) < 2:
        raise NoMatrix()
    rows = numbers[0]
    columns = numbers[1]
    if not (1 <= rows <= MOST_ROWS and 1 <= columns <= MOST_ROWS):
        raise NoMatrix()
    if len(numbers) != 2 + 2 * rows * columns:
        raise NoMatrix()
    return in_rows(read_entries(numbers[2:]), columns)


# Entries as pairs: what is divided, and by what.
def read_entries(numbers):
    if len(numbers) % 2 == 1:
        raise NoMatrix()
    entries = [(numbers[at], numbers[at + 1]) for at in range(0, len(numbers), 2)]
    for over, under in entries:
        if not (abs(over) < ENTRY_LIMIT and 1 <= under < ENTRY_LIMIT):
            raise NoMatrix()
    return entries


def in_rows(entries, columns):
    return [entries[start:start + columns] for start in range(0, len(entries), columns)]


# Whole numbers, and the one number to divide them by to have the entries.
def whole_entries(entries):
    shared = common_multiple([under for over, under in entries])
    return ([over * (shared // under) for over, under in entries], shared)


# Rows of whole numbers, and the one number to divide them by to have the matrix.
def whole_matrix(rows):
    entries = []
    for row in rows:
        entries.extend(row)
    found = whole_entries(entries)
    return (in_rows(found[0], len(rows[0])), found[1])


def has_shape(rows, height, width):
    return len(rows) == height and len(rows[0]) == width


# Whether this can be what takes states to the next ones.
def is_plant(rows):
    return len(rows) <= MOST_STATES and has_shape(rows, len(rows), len(rows))


# The columns as rows.
def turned(rows):
    return [[row[at] for row in rows] for at in range(len(rows[0]))]
