"""Promise 9: settles."""

import random
from fractions import Fraction
from itertools import combinations_with_replacement

from helper import LIMIT, PLAIN, SETTLES, Case, ask, determinant, plus, product_of, times, told, transfer, trim

MOST = LIMIT - 1
WITHIN = [[0, 1], [Fraction(-1, 2), 1], [2, 3], [Fraction(1, 2), 0, 1], [Fraction(9, 10), Fraction(-9, 5), 1],
          [-3, 5], [5, 8, 6], [1, 0, 0, -2]]
ON_THE_CIRCLE = [[-1, 1], [1, 1], [1, 0, 1], [1, -1, 1], [1, 1, 1], [5, 6, 5], [5, -8, 5], [1, 0, 0, 0, 1],
                 [1, 1, 1, 1, 1]]
OUTSIDE = [[-2, 1], [3, 2], [2, 0, 1], [10, -1, 9], [1, -3, 1], [Fraction(5, 2), 3, 2], [1, 0, 0, 0, Fraction(1, 2)]]


def settles(polynomial):
    """By another test than the program's: z goes to (1 + w) / (1 - w), then Hurwitz's determinants are above 0."""
    polynomial = trim(polynomial)
    degree = len(polynomial) - 1
    moved = []
    for power, number in enumerate(polynomial):
        part = product_of([[1, 1]] * power + [[1, -1]] * (degree - power))
        moved = plus(moved, times([number], part))
    if len(moved) != degree + 1:
        return False
    if moved[-1] < 0:
        moved = [-number for number in moved]
    rows = [[moved[degree - 1 - 2 * k + i] if 0 <= degree - 1 - 2 * k + i <= degree else 0 for k in range(degree)]
            for i in range(degree)]
    return all(determinant([row[:size] for row in rows[:size]]) > 0 for size in range(1, degree + 1))


class Settles(Case):
    def says(self, wanted, bottom, top=(1,)):
        with self.subTest(bottom=bottom):
            self.assertEqual(ask(SETTLES, transfer(top, bottom)), [0, wanted])

    def test_the_other_test_knows_what_is_within(self):
        for bottom in WITHIN + [[1]]:
            self.assertTrue(settles(bottom))
        for bottom in ON_THE_CIRCLE + OUTSIDE:
            self.assertFalse(settles(bottom))

    def test_all_roots_within(self):
        for bottom in WITHIN:
            self.says(1, bottom)
            self.says(1, [-number for number in bottom])
            self.says(1, [Fraction(number, 7) for number in bottom])

    def test_a_root_on_the_circle(self):
        for bottom in ON_THE_CIRCLE:
            self.says(0, bottom)
            for other in WITHIN:
                self.says(0, times(bottom, other))

    def test_roots_on_the_circle_several_times(self):
        for bottom in ON_THE_CIRCLE:
            often = bottom
            while len(often) + len(bottom) <= 10:
                often = times(often, bottom)
                self.says(0, often)
        for first in ON_THE_CIRCLE[:4]:
            for second in ON_THE_CIRCLE[:4]:
                self.says(0, times(first, second))
                self.says(0, times(times(first, second), [1, 3]))

    def test_a_root_outside(self):
        for bottom in OUTSIDE:
            self.says(0, bottom)
            for other in WITHIN + ON_THE_CIRCLE:
                self.says(0, times(bottom, other))

    def test_roots_within_and_outside_whose_product_is_1(self):
        for root in (2, -2, Fraction(3, 2), 10, 10 ** 19 + 1, Fraction(10 ** 9 + 1, 10 ** 9)):
            pair = times([-root, 1], [Fraction(-1, root), 1])
            self.assertEqual(abs(pair[0]), 1)
            self.says(0, pair)
            self.says(0, times(pair, [Fraction(-1, 2), 1]))
            self.says(0, times([-root, 1], [Fraction(1, root), 1]))
        self.says(0, times([2, 0, 1], [1, 0, 2]))
        self.says(0, times([5, 4, 1], [1, 4, 5]))
        self.says(0, times(times([-2, 1], [-1, 2]), times([3, 1], [1, 3])))

    def test_roots_at_0(self):
        for degree in range(9):
            self.says(1, [0] * degree + [1])
            self.says(1, [0] * degree + [Fraction(-3, 4)])
        for bottom in WITHIN:
            self.says(1, [0, 0, 0] + bottom)
        for bottom in ON_THE_CIRCLE + OUTSIDE:
            self.says(0, [0, 0, 0] + bottom)

    def test_a_bottom_of_degree_0(self):
        self.says(1, [5], [3])
        self.says(1, [-5], [3])
        self.says(1, [(3, MOST)], [(7, 2)])
        self.says(1, [2, 0, 0], [1, 0, 0])
        self.says(1, [5], [0])

    def test_a_root_outside_that_falls_away(self):
        self.says(1, times([-2, 1], [1, 2]), [-2, 1])
        self.says(1, [-2, 1], [-2, 1])
        self.says(1, times([1, 1], [1, 3]), [3, 3])
        self.says(1, times([1, 0, 1], [0, 1]), times([1, 0, 1], [5]))
        self.says(0, times([-2, 1], [3, 1]), [-2, 1])
        self.says(0, times([-2, 1], [-2, 1]), [-2, 1])
        for bottom in OUTSIDE + ON_THE_CIRCLE:
            self.says(1, bottom, [0])
            self.says(1, times(bottom, [1, 2]), times(bottom, [1]))

    def test_a_root_of_the_top_does_not_count(self):
        for top in OUTSIDE + ON_THE_CIRCLE:
            self.says(1, [0] * (len(top) - 1) + [1, 2], top)
            self.says(1, [Fraction(1, 3)] + [0] * (len(top) - 2) + [1], top)

    def test_it_cannot_be_run(self):
        for top, bottom in (([0, 1], [1]), ([1, 1, 1], [1, 2]), ([1, 1, 3], [2, 1]), ([0] * 8 + [1], [0] * 7 + [1]),
                            ([0, 0, 1], [0, 5]), (times([1, 1], [1, 0, 1]), times([1, 1], [1, 2]))):
            self.refused(-1, ask(SETTLES, transfer(top, bottom)))

    def test_it_can_be_run_only_once_it_is_plain(self):
        self.assertEqual(ask(SETTLES, told([[1, (0, 5), 0], [1, 2, 0]])), [0, 1])
        self.assertEqual(ask(SETTLES, told([[1, (0, 5), 0], [2, 1, 0]])), [0, 0])
        self.says(1, times([-2, 1], [1, 3]), times([-2, 1], [7, 5]))

    def test_wrong_transfer_functions(self):
        for wrong in ([[1, 1]], [[1, 2]] * 3, [[1, 2]] * 9, [[1, 1], [0, 0]], [[0], [0]]):
            self.refused(-1, ask(SETTLES, told(wrong)))

    def test_just_within_and_just_outside(self):
        for degree in range(1, 9):
            between = [0] * (degree - 1)
            for sign in (1, -1):
                self.says(1, [sign * (MOST - 1)] + between + [MOST])
                self.says(0, [sign * MOST] + between + [MOST])
                self.says(0, [sign * MOST] + between + [MOST - 1])
                self.says(1, [(sign * (MOST - 1), MOST)] + between + [1])
                self.says(0, [(sign * MOST, MOST - 1)] + between + [1])

    def test_just_within_and_just_outside_with_two_roots(self):
        # z^2 + p z + q: within if q is below 1 and p in size below 1 + q.
        step = Fraction(1, LIMIT // 2 - 1)
        half = LIMIT // 4 * step
        for sign in (1, -1):
            for q in (half, -half, 0, 1 - 2 * step, 2 * step - 1):
                self.says(1, [q, sign * (1 + q - step), 1])
                self.says(0, [q, sign * (1 + q), 1])
                self.says(0, [q, sign * (1 + q + step), 1])
            for p in (0, 1, Fraction(3, 2), 2 - 3 * step):
                self.says(1, [1 - step, sign * p, 1])
                self.says(0, [1, sign * p, 1])
                self.says(0, [Fraction(MOST, MOST - 1), sign * p, 1])

    def test_just_within_and_just_outside_with_8_roots(self):
        near = Fraction(10 ** 4 - 1, 10 ** 4)
        roots = [[sign * near, 1] for sign in (1, -1)]
        pairs = [[near * near, p * near, 1] for p in (0, 1, Fraction(6, 5))]
        self.says(1, product_of(roots + pairs))
        self.says(0, product_of(roots[:1] + pairs + [[1, 1]]))
        self.says(0, product_of(roots[:1] + pairs + [[-1 / near, 1]]))
        self.says(1, product_of([[-near, 1]] * 8))
        self.says(0, product_of([[-1 / near, 1]] * 8))
        self.says(0, product_of([[-1, 1]] * 8))

    def test_the_sum_of_sizes_at_the_edge(self):
        # All roots lie within where the leading number is above the sum of all others in size.
        self.says(1, [(MOST // 8, MOST)] * 8 + [1])
        self.says(0, [Fraction(-1, 8)] * 8 + [1])
        self.says(1, [-Fraction(MOST // 8, MOST)] * 8 + [1])
        self.says(0, [-Fraction(MOST // 8 + 1, MOST)] * 8 + [1])

    def test_products(self):
        some = WITHIN[:6] + ON_THE_CIRCLE[:4] + OUTSIDE[:4]
        for factors in combinations_with_replacement(some, 3):
            self.says(1 if all(factor in WITHIN for factor in factors) else 0, product_of(factors))

    def test_large_numbers(self):
        source = random.Random(24)
        for turn in range(6):
            rest = [Fraction(source.randrange(1 - LIMIT, LIMIT), source.randrange(1, LIMIT)) for k in range(8)]
            scale = sum(abs(number) for number in rest)
            self.says(0, rest + [Fraction(1, MOST)])
            if scale < MOST:
                self.says(1, rest + [MOST], rest)

    def test_many(self):
        source = random.Random(25)
        seen = {0: 0, 1: 0}
        for turn in range(400):
            degree = source.randint(1, 8)
            bottom = [Fraction(source.randint(-9, 9), source.randint(1, 9)) for k in range(degree)]
            bottom.append(Fraction(source.randint(3, 20)))
            wanted = 1 if settles(bottom) else 0
            self.assertEqual(ask(PLAIN, transfer([1], bottom))[2], degree + 1)
            self.says(wanted, bottom)
            seen[wanted] += 1
        self.assertGreater(min(seen.values()), 40)
