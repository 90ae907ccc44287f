"""Polynomials of whole numbers: lists, power 0 first, with no 0 at the end; 0 is the empty list."""

from tickdesign.whole import without_content

# A prime, 2 to the power of 61 less 1: where remainders by it show no common divisor, there is none.
TRIAL_PRIME = 2305843009213693951


# The same without zeros at the top powers.
def trimmed(numbers):
    places = len(numbers)
    while places > 0 and numbers[places - 1] == 0:
        places -= 1
    return numbers[:places]


# The same with zeros at the top powers, until all places are filled.
def padded(numbers, places):
    return numbers + [0] * (places - len(numbers))


def scaled(numbers, factor):
    return trimmed([factor * number for number in numbers])


def added(first, second):
    places = max(len(first), len(second))
    return trimmed([one + other for one, other in zip(padded(first, places), padded(second, places))])


def multiplied(first, second):
    found = [0] * (len(first) + len(second))
    for at, one in enumerate(first):
        for by, other in enumerate(second):
            found[at + by] += one * other
    return trimmed(found)


# What, times part, is whole: asked for only where there is such a polynomial of whole numbers.
def exact_quotient(whole, part):
    rest = list(whole)
    degree = len(whole) - len(part)
    found = [0] * (degree + 1)
    for at in range(degree, -1, -1):
        times = rest[at + len(part) - 1] // part[-1]
        found[at] = times
        for by, number in enumerate(part):
            rest[at + by] -= times * number
    return found


# The greatest common divisor of two polynomials other than 0. Its own numbers have no common divisor:
# so by Gauss's lemma both polynomials, divided by it, are still such of whole numbers.
def common_part(first, second):
    if surely_without_common_part(first, second):
        return [1]
    long = without_content(first)
    short = without_content(second)
    while short:
        rest = without_content(remainder(long, short))
        long = short
        short = rest
    return long


# What is left, by part, of some multiple of whole: multiplying spares quotients that aren't whole.
def remainder(whole, part):
    rest = whole
    while len(rest) >= len(part):
        rest = trimmed(top_removed(rest, part))
    return rest


def remainder_by_prime(whole, part):
    rest = whole
    while len(rest) >= len(part):
        rest = trimmed([number % TRIAL_PRIME for number in top_removed(rest, part)])
    return rest


# A multiple of whole less one of part, such that the top power falls away.
def top_removed(whole, part):
    moved = [0] * (len(whole) - len(part)) + part
    return [part[-1] * one - whole[-1] * other for one, other in zip(whole, moved)]


# True only if there is no common divisor but numbers, which is mostly so and seen here far sooner; False tells nothing.
def surely_without_common_part(first, second):
    long = [number % TRIAL_PRIME for number in first]
    short = [number % TRIAL_PRIME for number in second]
    # A common divisor is sure to keep its degree by the prime only where the leading numbers stay.
    if long[-1] == 0 or short[-1] == 0:
        return False
    while short:
        rest = remainder_by_prime(long, short)
        long = short
        short = rest
    return len(long) == 1
