"""What a transfer function does to signals; quotients are pairs here: what is divided, and by what."""

from tickdesign.matrices import read_entries
from tickdesign.matrices import read_matrix
from tickdesign.polynomials import padded
from tickdesign.refusals import NotFitting
from tickdesign.transfers import can_be_run
from tickdesign.transfers import transfer_of
from tickdesign.whole import common_multiple
from tickdesign.whole import lowest

MOST_INPUTS = 64


def response_answer(f, inputs):
    rows = read_matrix(f)
    entries = read_entries(inputs)
    if len(entries) > MOST_INPUTS:
        raise NotFitting()
    transfer = transfer_of(rows)
    if not can_be_run(transfer):
        raise NotFitting()
    bottom = transfer[1]
    fed_by = newest_first(padded(transfer[0], len(bottom)), bottom[-1])
    back_by = newest_first([-number for number in bottom[:-1]], bottom[-1])
    return told_outputs(fed_by, back_by, [lowest(over, under) for over, under in entries])


# Coefficients by what leads the bottom; that of the top power goes with what is newest.
def newest_first(numbers, lead):
    return [lowest(number, lead) for number in reversed(numbers)]


def told_outputs(fed_by, back_by, inputs):
    told = []
    outputs = []
    under = 1
    for t in range(len(inputs)):
        terms = weighted(fed_by, inputs[:t + 1]) + weighted(back_by, outputs)
        under = common_multiple([under] + [term[1] for term in terms])
        over = sum([term[0] * (under // term[1]) for term in terms])
        # Kept not in lowest terms: what each is divided by divides the next one's, so multiples are soon found.
        outputs.append((over, under))
        told.extend(lowest(over, under))
    return told


# Each factor times what it goes with in the signal, as far back as both reach.
def weighted(factors, signal):
    terms = []
    for back in range(min(len(factors), len(signal))):
        factor = factors[back]
        number = signal[-1 - back]
        terms.append((factor[0] * number[0], factor[1] * number[1]))
    return terms
