"""Transfer functions: pairs (top, bottom) of polynomials of whole numbers without common divisors."""

from tickdesign.matrices import ENTRY_LIMIT
from tickdesign.matrices import read_matrix
from tickdesign.matrices import whole_entries
from tickdesign.polynomials import added
from tickdesign.polynomials import common_part
from tickdesign.polynomials import exact_quotient
from tickdesign.polynomials import multiplied
from tickdesign.polynomials import padded
from tickdesign.polynomials import scaled
from tickdesign.refusals import NotFitting
from tickdesign.refusals import NotPossible
from tickdesign.whole import divisor_of_all
from tickdesign.whole import told_quotients

MOST_PLACES = 9
OP_TIMES = 0
OP_PLUS = 1
OP_BACK = 2


# The transfer function that the rows of a matrix are.
def transfer_of(rows):
    if len(rows) != 2:
        raise NotFitting()
    top = whole_entries(rows[0])
    bottom = whole_entries(rows[1])
    below = scaled(bottom[0], top[1])
    if not below:
        raise NotFitting()
    return reduced(scaled(top[0], bottom[1]), below)


# Top and bottom (not 0) without common divisors; what leads the bottom is above 0.
def reduced(top, bottom):
    if not top:
        return ([], [1])
    shared = common_part(top, bottom)
    above = exact_quotient(top, shared)
    below = exact_quotient(bottom, shared)
    content = divisor_of_all(below + above)
    if below[-1] < 0:
        content = -content
    return ([number // content for number in above], [number // content for number in below])


def can_be_run(transfer):
    return len(transfer[0]) <= len(transfer[1])


def places_of(transfer):
    return max(len(transfer[0]), len(transfer[1]))


# The plain one told by numbers: here the bottom comes to lead with 1.
def told_transfer(transfer):
    places = places_of(transfer)
    numbers = padded(transfer[0], places) + padded(transfer[1], places)
    return [2, places] + told_quotients(numbers, transfer[1][-1])


def plain_answer(f):
    return told_transfer(transfer_of(read_matrix(f)))


def join_answer(op, f, g):
    first_rows = read_matrix(f)
    second_rows = read_matrix(g)
    if not OP_TIMES <= op <= OP_BACK:
        raise NotFitting()
    found = joined(op, transfer_of(first_rows), transfer_of(second_rows))
    if places_of(found) > MOST_PLACES:
        raise NotFitting()
    return told_transfer(found)


def joined(op, first, second):
    tops = multiplied(first[0], second[0])
    bottoms = multiplied(first[1], second[1])
    across = multiplied(first[0], second[1])
    if op == OP_TIMES:
        return reduced(tops, bottoms)
    if op == OP_PLUS:
        return reduced(added(across, multiplied(first[1], second[0])), bottoms)
    below = added(bottoms, tops)
    if not below:
        raise NotPossible()
    return reduced(across, below)


def tustin_answer(p, q, f):
    rows = read_matrix(f)
    if not (1 <= p < ENTRY_LIMIT and 1 <= q < ENTRY_LIMIT):
        raise NotFitting()
    transfer = transfer_of(rows)
    places = places_of(transfer)
    over = [-2 * q, 2 * q]
    under = [p, p]
    top = at_quotient(padded(transfer[0], places), over, under)
    bottom = at_quotient(padded(transfer[1], places), over, under)
    return told_transfer(reduced(top, bottom))


# The value at over / under, times under as often as the numbers have powers above 0: so it is a polynomial too.
def at_quotient(numbers, over, under):
    found = []
    unders = [1]
    for number in reversed(numbers):
        found = added(multiplied(found, over), scaled(unders, number))
        unders = multiplied(unders, under)
    return found
