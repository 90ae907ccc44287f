"""Whether what a transfer function answers dies away by itself."""

from tickdesign.matrices import read_matrix
from tickdesign.refusals import NotFitting
from tickdesign.transfers import can_be_run
from tickdesign.transfers import transfer_of
from tickdesign.whole import without_content


def settles_answer(f):
    transfer = transfer_of(read_matrix(f))
    if not can_be_run(transfer):
        raise NotFitting()
    if all_within(transfer[1]):
        return [1]
    return [0]


# Schur's and Cohn's test: all roots lie within the unit circle just if the number of power 0 is smaller in size
# than the leading one, and all roots of the polynomial of one degree less lie within it too.
def all_within(numbers):
    rest = numbers
    while len(rest) > 1:
        if abs(rest[0]) >= abs(rest[-1]):
            return False
        rest = without_content(one_degree_less(rest))
    return True


# The polynomial times its leading number, less itself backwards times its first one: power 0 falls away.
def one_degree_less(numbers):
    lead = numbers[-1]
    first = numbers[0]
    return [lead * one - first * other for one, other in zip(numbers[1:], numbers[-2::-1])]
