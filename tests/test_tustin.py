"""Promise 3: tustin."""

import random
from fractions import Fraction

from helper import FAR, LIMIT, TUSTIN, Case, ask, plus, product_of, times, told, transfer


def changed(p, q, f):
    """Top and bottom of f at 2 q / p (z - 1) / (z + 1), both times a power of z + 1."""
    power = max(len(f[0]), len(f[1])) - 1
    rows = []
    for row in f:
        found = []
        for k, number in enumerate(row):
            part = product_of([[Fraction(-2 * q, p), Fraction(2 * q, p)]] * k + [[1, 1]] * (power - k))
            found = plus(found, times([number], part))
        rows.append(found)
    return rows


class Tustin(Case):
    def check(self, p, q, f):
        answer = ask(TUSTIN, p, q, transfer(*f))
        self.worth(answer, *changed(p, q, f))
        return answer

    def test_an_integrator(self):
        self.assertEqual(self.check(1, 1, ([1], [0, 1])), [0, 2, 2, 1, 2, 1, 2, -1, 1, 1, 1])
        self.assertEqual(self.check(1, 10, ([1], [0, 1])), [0, 2, 2, 1, 20, 1, 20, -1, 1, 1, 1])
        self.assertEqual(self.check(3, 1, ([1], [0, 1])), [0, 2, 2, 3, 2, 3, 2, -1, 1, 1, 1])

    def test_a_first_order_lag(self):
        self.assertEqual(self.check(1, 2, ([1], [1, 1])), [0, 2, 2, 1, 5, 1, 5, -3, 5, 1, 1])

    def test_numbers_stay(self):
        self.assertEqual(self.check(7, 5, ([6], [4])), [0, 2, 1, 3, 2, 1, 1])
        self.assertEqual(self.check(7, 5, ([0], [3, 2, 1])), [0, 2, 1, 0, 1, 1, 1])

    def test_p_and_q_at_the_edges(self):
        f = ([1, 2], [3, 4, 5])
        for p in (1, LIMIT - 1):
            for q in (1, LIMIT - 1):
                self.check(p, q, f)
        for wrong in (0, -1, LIMIT, 1 - LIMIT, -LIMIT, FAR, -FAR):
            self.refused(-1, ask(TUSTIN, wrong, 1, transfer(*f)))
            self.refused(-1, ask(TUSTIN, 1, wrong, transfer(*f)))
            self.refused(-1, ask(TUSTIN, wrong, wrong, transfer(*f)))

    def test_wrong_transfer_functions(self):
        for wrong in (told([[1, 1]]), told([[1, 1]] * 3), transfer([1, 1], [0]), transfer([0], [0])):
            self.refused(-1, ask(TUSTIN, 1, 1, wrong))

    def test_a_top_of_greater_degree(self):
        self.assertEqual(self.check(1, 1, ([0, 1], [1])), [0, 2, 2, -2, 1, 2, 1, 1, 1, 1, 1])
        self.assertEqual(self.check(2, 3, ([1, 0, 0, 1], [1, 1]))[2], 3)
        self.assertEqual(self.check(2, 3, ([1] * 8 + [2], [5]))[2], 9)

    def test_the_bottom_loses_degree(self):
        # A root of the bottom at s = 2 q / p goes to where z is beyond all numbers.
        self.assertEqual(self.check(1, 1, ([1], [-2, 1])), [0, 2, 2, -1, 4, -1, 4, 1, 1, 0, 1])
        self.assertEqual(self.check(1, 1, ([1], times([-2, 1], [5, 1])))[2], 3)

    def test_the_top_loses_and_gains_degree(self):
        self.assertEqual(self.check(1, 1, ([-2, 1], [3, 1])), [0, 2, 2, -4, 5, 0, 1, 1, 5, 1, 1])
        self.assertEqual(self.check(1, 1, ([1], [1, 2, 3]))[2], 3)

    def test_common_divisors_fall_away(self):
        shared = times([1, 1], [3, 5])
        self.assertEqual(self.check(5, 7, (times(shared, [1, 2]), times(shared, [4, 1])))[2], 2)
        self.assertEqual(self.check(5, 7, (shared, shared)), [0, 2, 1, 1, 1, 1, 1])

    def test_zeros_at_the_top_powers(self):
        f = [[1, 0, 0, 0], [0, 1, 0, 0]]
        self.assertEqual(ask(TUSTIN, 1, 1, told(f)), [0, 2, 2, 1, 2, 1, 2, -1, 1, 1, 1])

    def test_9_places(self):
        source = random.Random(5)
        rows = [[Fraction(source.randrange(1 - LIMIT, LIMIT), source.randrange(1, LIMIT)) for k in range(9)]
                for i in (0, 1)]
        self.assertEqual(self.check(LIMIT - 1, LIMIT - 2, rows)[2], 9)

    def test_many(self):
        source = random.Random(6)
        for turn in range(150):
            top = [source.randint(-3, 3) for k in range(source.randint(1, 5))]
            bottom = [source.randint(-3, 3) for k in range(source.randint(0, 4))] + [source.randint(1, 3)]
            self.check(source.randint(1, 4), source.randint(1, 4), (top, bottom))
