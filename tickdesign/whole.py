"""Whole numbers: common divisors, common multiples, quotients in lowest terms."""

# Euclid's steps on long numbers cost much: they are found from so many leading bits, until half are used up.
LEAD_BITS = 1024
HALF_BITS = 512


# The greatest common divisor, never below 0; 0 only if both are 0.
def common_divisor(first, second):
    long = max(abs(first), abs(second))
    short = min(abs(first), abs(second))
    while short.bit_length() > LEAD_BITS:
        pair = shorter_pair(long, short)
        long = max(pair)
        short = min(pair)
    while short:
        rest = long % short
        long = short
        short = rest
    return long


def shorter_pair(long, short):
    cut = long.bit_length() - LEAD_BITS
    steps = leading_steps(long >> cut, short >> cut)
    if steps[1] == 0:
        return (short, long % short)
    # The steps have determinant 1 or -1: common divisors stay the same, whatever was cut off.
    first = abs(steps[0] * long + steps[1] * short)
    second = abs(steps[2] * long + steps[3] * short)
    return (first, second)


# Euclid's steps as a matrix of two rows: what is left of both is so many times long and short.
def leading_steps(long, short):
    above_long = 1
    above_short = 0
    below_long = 0
    below_short = 1
    while short >> HALF_BITS:
        times = long // short
        rest = long - times * short
        long = short
        short = rest
        rest = above_long - times * below_long
        above_long = below_long
        below_long = rest
        rest = above_short - times * below_short
        above_short = below_short
        below_short = rest
    return (above_long, above_short, below_long, below_short)


def divisor_of_all(numbers):
    found = 0
    for number in numbers:
        found = common_divisor(found, number)
        if found == 1:
            return 1
    return found


# The least common multiple of numbers that are all above 0.
def common_multiple(numbers):
    found = 1
    for number in numbers:
        found = found * (number // common_divisor(found, number))
    return found


def without_content(numbers):
    content = divisor_of_all(numbers)
    if content < 2:
        return list(numbers)
    return [number // content for number in numbers]


# A quotient in lowest terms; under is above 0.
def lowest(over, under):
    shared = common_divisor(over, under)
    return (over // shared, under // shared)


# Each of overs divided by under (not 0), in lowest terms, as two numbers behind one another.
def told_quotients(overs, under):
    bare = without_content([under] + overs)
    if bare[0] < 0:
        bare = [-number for number in bare]
    base = bare[0]
    shared = shared_by_some(bare[1:], base)
    told = []
    for over in bare[1:]:
        # What divides over and base divides shared, which is mostly far shorter than base.
        cut = common_divisor(over, shared) if over else base
        told.append(over // cut)
        told.append(base // cut)
    return told


# A divisor of under that each common divisor of under and one of overs (other than 0) divides.
def shared_by_some(overs, under):
    product = 1
    for over in overs:
        if over:
            product = product * over % under
    return common_divisor(product, under)
