"""States that do what a transfer function does, and the transfer function of states."""

from tickdesign.matrices import has_shape
from tickdesign.matrices import is_plant
from tickdesign.matrices import read_matrix
from tickdesign.matrices import whole_entries
from tickdesign.polynomials import added
from tickdesign.polynomials import exact_quotient
from tickdesign.polynomials import multiplied
from tickdesign.polynomials import padded
from tickdesign.polynomials import scaled
from tickdesign.polynomials import trimmed
from tickdesign.refusals import NotFitting
from tickdesign.transfers import can_be_run
from tickdesign.transfers import reduced
from tickdesign.transfers import told_transfer
from tickdesign.transfers import transfer_of
from tickdesign.whole import told_quotients


def realize_answer(f):
    transfer = transfer_of(read_matrix(f))
    places = len(transfer[1])
    if places == 1 or not can_be_run(transfer):
        raise NotFitting()
    return told_states(padded(transfer[0], places), transfer[1])


# The four matrices one behind another; top and bottom are equally long here.
def told_states(top, bottom):
    size = len(bottom) - 1
    lead = bottom[size]
    through = top[size]
    back = told_quotients([-number for number in bottom[:size]], lead)
    rests = [lead * one - through * other for one, other in zip(top[:size], bottom[:size])]
    told_a = [size, size] + told_shift(size) + back
    told_b = [size, 1] + [0, 1] * (size - 1) + [1, 1]
    told_c = [1, size] + told_quotients(rests, lead * lead)
    return told_a + told_b + told_c + [1, 1] + told_quotients([through], lead)


# All rows but the last: 1 just right of the diagonal.
def told_shift(size):
    told = []
    for at in range(size - 1):
        told.extend([0, 1] * (at + 1) + [1, 1] + [0, 1] * (size - 2 - at))
    return told


def transfer_answer(a, b, c, d):
    plant = read_matrix(a)
    feed = read_matrix(b)
    shown = read_matrix(c)
    through = read_matrix(d)
    size = len(plant)
    if not (is_plant(plant) and has_shape(feed, size, 1) and has_shape(shown, 1, size) and has_shape(through, 1, 1)):
        raise NotFitting()
    lines = [plant_line(row + feed[at], at) for at, row in enumerate(plant)]
    last = whole_entries(shown[0] + through[0])
    minors = last_minors(lines + [[trimmed([number]) for number in last[0]]])
    return told_transfer(reduced(minors[1], scaled(minors[0], last[1])))


# A row of z - a, and of -b behind it, times a number that makes all of it whole.
def plant_line(entries, at):
    found = whole_entries(entries)
    line = [trimmed([-number]) for number in found[0]]
    line[at] = [-found[0][at], found[1]]
    return line


# c (z - a)^-1 b + d is the determinant of all lines (z - a, -b; c, d) by that of all but the last line and column.
# One elimination by Bareiss tells both. No pivot is 0: each is, up to a factor, a characteristic polynomial.
def last_minors(lines):
    rest = lines
    last = [1]
    while len(rest) > 1:
        first = rest[0]
        rest = [eliminated_line(line, first, last) for line in rest[1:]]
        last = first[0]
    return (last, rest[0][0])


# All entries are minors of the lines that we began with: so dividing by the last pivot leaves no rest.
def eliminated_line(line, first, last):
    against = scaled(line[0], -1)
    found = []
    for one, other in zip(line[1:], first[1:]):
        mixed = added(multiplied(first[0], one), multiplied(against, other))
        found.append(exact_quotient(mixed, last))
    return found
