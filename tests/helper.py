"""What the tests share: calls put together, answers taken apart, and arithmetic by fractions.Fraction."""

import unittest
from fractions import Fraction
from math import gcd

from tickdesign.desk import answers

LIMIT = 10 ** 40
FAR = 10 ** 41
PLAIN, JOIN, TUSTIN, RESPONSE, PLACE, OBSERVE, REALIZE, TRANSFER, SETTLES = range(1, 10)
TIMES, PLUS, BACK = 0, 1, 2


def pair(entry):
    """Two whole numbers for an entry; a tuple is told as it stands, in lowest terms or not."""
    if isinstance(entry, tuple):
        return list(entry)
    entry = Fraction(entry)
    return [entry.numerator, entry.denominator]


def told(rows):
    """A matrix told by numbers."""
    numbers = [len(rows), len(rows[0])]
    for row in rows:
        for entry in row:
            numbers += pair(entry)
    return numbers


def transfer(top, bottom):
    """A transfer function told by numbers, both rows made equally long."""
    places = max(len(top), len(bottom), 1)
    return told([list(row) + [0] * (places - len(row)) for row in (top, bottom)])


def column(entries):
    return told([[entry] for entry in entries])


def signal(entries):
    """A list of inputs."""
    return [number for entry in entries for number in pair(entry)]


def call(number, *parts):
    """A call laid out as a list: whole numbers as they are, lists with their lengths before them."""
    numbers = [number]
    for part in parts:
        numbers += [len(part)] + part if isinstance(part, list) else [part]
    return numbers


def split_answers(numbers):
    found = []
    at = 0
    while at < len(numbers):
        found.append(numbers[at + 1:at + 1 + numbers[at]])
        at += 1 + numbers[at]
    return found


def ask(number, *parts):
    """The answer of one call alone."""
    found = split_answers(answers(call(number, *parts)))
    if len(found) != 1:
        raise AssertionError("one call has to have one answer")
    return found[0]


def trim(numbers):
    numbers = [Fraction(number) for number in numbers]
    while numbers and numbers[-1] == 0:
        numbers.pop()
    return numbers


def times(first, second):
    found = [Fraction(0)] * (len(first) + len(second))
    for i, one in enumerate(first):
        for k, other in enumerate(second):
            found[i + k] += Fraction(one) * other
    return trim(found)


def plus(first, second):
    places = max(len(first), len(second))
    padded = [list(numbers) + [0] * (places - len(numbers)) for numbers in (first, second)]
    return trim([Fraction(one) + other for one, other in zip(*padded)])


def rest_of(whole, part):
    rest = trim(whole)
    while len(rest) >= len(part):
        factor = rest[-1] / part[-1]
        moved = [0] * (len(rest) - len(part)) + [-factor * number for number in part]
        rest = trim(one + other for one, other in zip(rest, moved))
    return rest


def common(first, second):
    first, second = trim(first), trim(second)
    while second:
        first, second = second, rest_of(first, second)
    return first


def product_of(factors):
    found = [Fraction(1)]
    for factor in factors:
        found = times(found, factor)
    return found


def matrix_times(first, second):
    return [[sum(row[k] * second[k][j] for k in range(len(second))) for j in range(len(second[0]))] for row in first]


def determinant(rows):
    rows = [[Fraction(entry) for entry in row] for row in rows]
    found = Fraction(1)
    for step in range(len(rows)):
        fit = [row for row in range(step, len(rows)) if rows[row][step] != 0]
        if not fit:
            return Fraction(0)
        if fit[0] != step:
            rows[step], rows[fit[0]] = rows[fit[0]], rows[step]
            found = -found
        found *= rows[step][step]
        for row in range(step + 1, len(rows)):
            factor = rows[row][step] / rows[step][step]
            rows[row] = [one - factor * other for one, other in zip(rows[row], rows[step])]
    return found


def transposed(rows):
    return [list(column) for column in zip(*rows)]


def chain(size):
    """Each state is handed on to the one before it; the last one is fed."""
    return [[1 if k == i + 1 else 0 for k in range(size)] for i in range(size)], [0] * (size - 1) + [1]


def reaches(a, b):
    """Whether b, a b, a a b, .. beside each other have the full rank."""
    vectors = [[[Fraction(entry)] for entry in b]]
    while len(vectors) < len(a):
        vectors.append(matrix_times(a, vectors[-1]))
    return determinant([[entry[0] for entry in vector] for vector in vectors]) != 0


def states(a, b, c, d):
    """The four lists of states, from rows, a column, a row and a number."""
    return [told(a), column(b), told([c]), told([[d]])]


def run_states(a, b, c, d, inputs):
    """What states answer to inputs, tick by tick."""
    x = [Fraction(0)] * len(a)
    outputs = []
    for u in inputs:
        outputs.append(sum(one * other for one, other in zip(c, x)) + d * Fraction(u))
        x = [sum(one * other for one, other in zip(row, x)) + fed * Fraction(u) for row, fed in zip(a, b)]
    return outputs


def value(numbers, z):
    return sum((Fraction(number) * z ** power for power, number in enumerate(numbers)), Fraction(0))


def is_characteristic(polynomial, rows):
    """Whether det(z - a) is the polynomial: of degree n and leading with 1, it has to agree at n places."""
    size = len(rows)
    polynomial = trim(polynomial)
    if len(polynomial) != size + 1 or polynomial[-1] != 1:
        return False
    for z in range(-1, size):
        shifted = [[(z if i == k else 0) - rows[i][k] for k in range(size)] for i in range(size)]
        if determinant(shifted) != value(polynomial, z):
            return False
    return True


class Case(unittest.TestCase):
    """Checks in the document's own words."""

    def refused(self, number, answer):
        self.assertEqual(answer, [number])

    def entries_of(self, numbers):
        """Entries of an answer, which are in lowest terms with the second number above 0."""
        self.assertEqual(len(numbers) % 2, 0)
        found = []
        for over, under in zip(numbers[::2], numbers[1::2]):
            self.assertGreater(under, 0)
            self.assertEqual(gcd(over, under), 1)
            found.append(Fraction(over, under))
        return found

    def matrix_of(self, answer, rows, columns):
        """The rows of a matrix that is answered in full."""
        self.assertEqual(answer[:3], [0, rows, columns])
        entries = self.entries_of(answer[3:])
        self.assertEqual(len(entries), rows * columns)
        return [entries[row * columns:(row + 1) * columns] for row in range(rows)]

    def plain_of(self, answer):
        """Top and bottom of an answer that has to be a plain transfer function."""
        self.assertEqual(answer[0], 0)
        above, below = [trim(row) for row in self.matrix_of(answer, 2, answer[2])]
        self.assertEqual(answer[2], max(len(above), len(below)))
        self.assertEqual(below[-1], 1)
        self.assertEqual(len(common(above, below)), 1)
        return above, below

    def worth(self, answer, top, bottom):
        """The answer is the one plain transfer function that is worth top over bottom."""
        above, below = self.plain_of(answer)
        self.assertEqual(times(above, bottom), times(top, below))

    def runs(self, top, bottom, inputs, outputs):
        """Inputs and outputs fulfil the sums of the document; top over bottom has to be without common divisors."""
        self.assertEqual(len(outputs), len(inputs))
        degree = len(bottom) - 1
        self.assertLessEqual(len(top), degree + 1)
        top = list(top) + [0] * (degree + 1 - len(top))
        for t in range(len(inputs)):
            back = range(min(t, degree) + 1)
            self.assertEqual(sum(bottom[degree - k] * outputs[t - k] for k in back),
                             sum(top[degree - k] * Fraction(inputs[t - k]) for k in back))
