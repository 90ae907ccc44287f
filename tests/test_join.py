"""Promise 2: join."""

import random
from fractions import Fraction

from helper import (BACK, FAR, JOIN, LIMIT, PLUS, TIMES, Case, ask, common, plus, product_of, times, told, transfer,
                    trim)

EIGHT = product_of([[k, 1] for k in range(1, 9)])
OTHER = product_of([[k, 2] for k in (1, 3, 5, 7, 9, 11, 13, 15)])


def joined(op, f, g):
    """Top and bottom of the result, with all their common divisors."""
    if op == TIMES:
        return times(f[0], g[0]), times(f[1], g[1])
    if op == PLUS:
        return plus(times(f[0], g[1]), times(g[0], f[1])), times(f[1], g[1])
    return times(f[0], g[1]), plus(times(f[1], g[1]), times(f[0], g[0]))


class Join(Case):
    def check(self, op, f, g):
        """The answer is what the promise says, and refused where the promise says so."""
        answer = ask(JOIN, op, transfer(*f), transfer(*g))
        top, bottom = joined(op, f, g)
        if not bottom:
            self.refused(-4, answer)
        elif max(len(trim(top)), len(bottom)) - len(common(top, bottom)) + 1 > 9:
            self.refused(-1, answer)
        else:
            self.worth(answer, top, bottom)
        return answer

    def test_each_op(self):
        f, g = ([1], [2, 1]), ([3], [-1, 1])
        self.assertEqual(self.check(TIMES, f, g), [0, 2, 3, 3, 1, 0, 1, 0, 1, -2, 1, 1, 1, 1, 1])
        self.assertEqual(self.check(PLUS, f, g), [0, 2, 3, 5, 1, 4, 1, 0, 1, -2, 1, 1, 1, 1, 1])
        self.assertEqual(self.check(BACK, f, g), [0, 2, 3, -1, 1, 1, 1, 0, 1, 1, 1, 1, 1, 1, 1])
        self.assertEqual(self.check(BACK, g, f), [0, 2, 3, 6, 1, 3, 1, 0, 1, 1, 1, 1, 1, 1, 1])

    def test_numbers_alone(self):
        f, g = ([Fraction(2, 3)], [1]), ([5], [4])
        self.assertEqual(self.check(TIMES, f, g), [0, 2, 1, 5, 6, 1, 1])
        self.assertEqual(self.check(PLUS, f, g), [0, 2, 1, 23, 12, 1, 1])
        self.assertEqual(self.check(BACK, f, g), [0, 2, 1, 4, 11, 1, 1])

    def test_ops_outside(self):
        one = transfer([1], [1])
        for op in (-1, 3, 4, -2, 100, LIMIT, -LIMIT, FAR, -FAR):
            self.refused(-1, ask(JOIN, op, one, one))

    def test_wrong_transfer_functions(self):
        good = transfer([1, 1], [2, 1])
        for wrong in (told([[1, 1]]), told([[1, 1]] * 3), transfer([1, 1], [0]), transfer([0], [0])):
            for op in (TIMES, PLUS, BACK):
                self.refused(-1, ask(JOIN, op, wrong, good))
                self.refused(-1, ask(JOIN, op, good, wrong))
                self.refused(-1, ask(JOIN, op, wrong, wrong))

    def test_nothing(self):
        nothing, g = ([0], [1]), ([1, 2], [3, 4])
        self.assertEqual(self.check(TIMES, nothing, g), [0, 2, 1, 0, 1, 1, 1])
        self.assertEqual(self.check(BACK, nothing, g), [0, 2, 1, 0, 1, 1, 1])
        self.assertEqual(self.check(PLUS, g, ([-1, -2], [3, 4])), [0, 2, 1, 0, 1, 1, 1])
        self.assertEqual(self.check(BACK, g, nothing), self.check(PLUS, g, nothing))

    def test_just_9_places(self):
        for op in (TIMES, PLUS, BACK):
            self.assertEqual(self.check(op, ([1], EIGHT[:5]), ([1], OTHER[:5]))[2], 9)
        self.assertEqual(self.check(TIMES, ([1] * 5, [1]), ([1, 2, 3, 4, 5], [1]))[2], 9)
        self.assertEqual(self.check(PLUS, (EIGHT, [1]), (OTHER, [1]))[2], 9)

    def test_10_places_and_more(self):
        for op in (TIMES, PLUS, BACK):
            self.refused(-1, self.check(op, ([1], EIGHT[:6]), ([1], OTHER[:5])))
            self.refused(-1, self.check(op, ([1], EIGHT), ([1], OTHER)))
        self.refused(-1, self.check(TIMES, ([0] * 8 + [1], [1]), ([0, 1], [1])))
        self.refused(-1, self.check(BACK, ([1, 2], [3, 1]), ([1, 1, 1], EIGHT)))

    def test_many_places_before_the_plain_one(self):
        self.assertEqual(self.check(TIMES, (EIGHT, OTHER), (OTHER, EIGHT)), [0, 2, 1, 1, 1, 1, 1])
        self.assertEqual(self.check(TIMES, (EIGHT, [1]), ([1], EIGHT)), [0, 2, 1, 1, 1, 1, 1])
        self.assertEqual(self.check(TIMES, (EIGHT, OTHER), ([1], EIGHT))[2], 9)
        self.assertEqual(self.check(PLUS, ([1, 2], EIGHT), (OTHER, EIGHT))[2], 9)
        self.assertEqual(self.check(PLUS, (EIGHT, OTHER), ([-n for n in EIGHT], OTHER)), [0, 2, 1, 0, 1, 1, 1])
        self.assertEqual(self.check(BACK, (EIGHT, OTHER), (OTHER, EIGHT)), self.check(
            TIMES, (EIGHT, OTHER), ([1], [2])))

    def test_common_divisors_that_stand_more_than_once(self):
        squared = times([1, 1], [1, 1])
        self.check(PLUS, ([1], times(squared, [2, 1])), ([1], times(squared, [-4, 1])))
        self.check(PLUS, ([1, 0, 3], times(squared, squared)), ([-1, 0, -2], times(squared, squared)))
        self.check(TIMES, (squared, [3, 1]), ([1], times(squared, squared)))
        self.check(BACK, (squared, [3, 1]), ([1], times(squared, squared)))

    def test_nothing_to_divide_by(self):
        self.refused(-4, self.check(BACK, ([1], [1]), ([-1], [1])))
        self.refused(-4, self.check(BACK, ([1, 2], [3, 4]), ([-3, -4], [1, 2])))
        self.refused(-4, self.check(BACK, ([2, 4], [3, 5, 1]), ([Fraction(-3), -5, -1], [2, 4])))
        self.refused(-4, self.check(BACK, (EIGHT, OTHER), ([-n for n in OTHER], EIGHT)))
        self.refused(-4, self.check(BACK, (times([1, 2], [7, 1]), times([3, 4], [7, 1])), ([-3, -4], [1, 2])))
        for op in (TIMES, PLUS):
            self.assertEqual(self.check(op, ([1, 2], [3, 4]), ([-3, -4], [1, 2]))[0], 0)

    def test_large_numbers(self):
        source = random.Random(3)

        def row(places):
            return [Fraction(source.randrange(1 - LIMIT, LIMIT), source.randrange(1, LIMIT)) for k in range(places)]
        for op in (TIMES, PLUS, BACK):
            self.assertEqual(self.check(op, (row(5), row(5)), (row(5), row(5)))[2], 9)
            self.refused(-1, ask(JOIN, op, transfer(row(9), row(9)), transfer(row(9), row(9))))
        shared = row(9)
        self.assertEqual(self.check(PLUS, (row(9), shared), (row(9), [-number for number in shared]))[2], 9)
        self.assertEqual(self.check(TIMES, (row(9), shared), (shared, row(9)))[2], 9)

    def test_many(self):
        source = random.Random(4)

        def row():
            numbers = [source.randint(-2, 2) for k in range(source.randint(1, 6))]
            return numbers if any(numbers) else [1]
        for turn in range(150):
            f, g = (row(), row()), (row(), row())
            if turn % 3 == 0:
                g = (g[0], f[1])
            if turn % 3 == 1:
                g = ([-number for number in f[1]], f[0])
            for op in (TIMES, PLUS, BACK):
                self.check(op, f, g)
