"""Promise 1: plain."""

import random
from fractions import Fraction

from helper import LIMIT, PLAIN, Case, ask, product_of, times, told, transfer


class Plain(Case):
    def check(self, top, bottom):
        answer = ask(PLAIN, transfer(top, bottom))
        self.worth(answer, top, bottom)
        return answer

    def test_plain_already(self):
        self.assertEqual(self.check([1, 2], [3, 1]), [0, 2, 2, 1, 1, 2, 1, 3, 1, 1, 1])

    def test_common_divisors_of_each_degree(self):
        for degree in range(1, 8):
            shared = product_of([[k - 3, k + 1] for k in range(degree)])
            answer = self.check(times([5, 2], shared), times([7, -3], shared))
            self.assertEqual(answer, [0, 2, 2, -5, 3, -2, 3, -7, 3, 1, 1])

    def test_common_divisor_without_rational_roots(self):
        shared = times([1, 0, 1], [2, 0, 1])
        self.assertEqual(self.check(shared, times(shared, [0, 1])), [0, 2, 2, 1, 1, 0, 1, 0, 1, 1, 1])

    def test_common_divisor_that_stands_more_than_once(self):
        cubed = product_of([[1, 2]] * 3)
        answer = self.check(times(cubed, [1, 1]), times(cubed, [1, 2]))
        self.assertEqual(answer, [0, 2, 2, 1, 2, 1, 2, 1, 2, 1, 1])

    def test_all_is_common(self):
        numbers = [Fraction(k * k - 5, k + 2) for k in range(9)]
        self.assertEqual(self.check(numbers, numbers), [0, 2, 1, 1, 1, 1, 1])
        self.assertEqual(self.check([3 * n for n in numbers], [-7 * n for n in numbers]), [0, 2, 1, -3, 7, 1, 1])

    def test_powers_of_z_are_common(self):
        self.assertEqual(self.check([0, 0, 3], [0, 0, 0, 2]), [0, 2, 2, 3, 2, 0, 1, 0, 1, 1, 1])

    def test_top_of_0(self):
        for bottom in ([1], [7], [-3, 4], [0, 1], [0, 0, 0, 5], [Fraction(1, 3)] * 9):
            self.assertEqual(self.check([0], bottom), [0, 2, 1, 0, 1, 1, 1])
        self.assertEqual(ask(PLAIN, told([[(0, 9), (0, 4)], [(1, 2), (0, 3)]])), [0, 2, 1, 0, 1, 1, 1])

    def test_bottom_that_is_a_number(self):
        self.assertEqual(self.check([1, 2, 3], [4]), [0, 2, 3, 1, 4, 1, 2, 3, 4, 1, 1, 0, 1, 0, 1])
        self.assertEqual(self.check([-6], [-4]), [0, 2, 1, 3, 2, 1, 1])

    def test_bottom_that_does_not_lead_with_1(self):
        self.assertEqual(self.check([1], [3, -2]), [0, 2, 2, -1, 2, 0, 1, -3, 2, 1, 1])
        self.assertEqual(self.check([1], [3, Fraction(2, 5)]), [0, 2, 2, 5, 2, 0, 1, 15, 2, 1, 1])

    def test_zeros_at_the_top_powers(self):
        self.assertEqual(self.check([1, 2, 0, 0], [3, 1, 0, 0, 0, 0, 0, 0, 0]), [0, 2, 2, 1, 1, 2, 1, 3, 1, 1, 1])
        self.assertEqual(self.check([0] * 8 + [1], [2]), [0, 2, 9] + [0, 1] * 8 + [1, 2, 1, 1] + [0, 1] * 8)

    def test_not_two_rows(self):
        self.refused(-1, ask(PLAIN, told([[1, 2]])))
        self.refused(-1, ask(PLAIN, told([[1, 2]] * 3)))
        self.refused(-1, ask(PLAIN, told([[1]] * 9)))

    def test_bottom_of_0(self):
        self.refused(-1, ask(PLAIN, transfer([1], [0])))
        self.refused(-1, ask(PLAIN, transfer([0], [0])))
        self.refused(-1, ask(PLAIN, told([[1, 2, 3], [(0, 1), (0, 7), (0, LIMIT - 1)]])))

    def test_large_numbers(self):
        source = random.Random(1)
        top = [Fraction(source.randrange(1 - LIMIT, LIMIT), source.randrange(1, LIMIT)) for k in range(9)]
        bottom = [Fraction(source.randrange(1 - LIMIT, LIMIT), source.randrange(1, LIMIT)) for k in range(9)]
        self.assertEqual(self.check(top, bottom)[2], 9)
        shared = [source.randrange(-10 ** 19, 10 ** 19) for k in range(5)]
        top = times(shared, [source.randrange(-10 ** 19, 10 ** 19) for k in range(5)])
        bottom = times(shared, [source.randrange(-10 ** 19, 10 ** 19) for k in range(5)])
        self.assertEqual(self.check(top, bottom)[2], 5)

    def test_leading_numbers_and_values_that_hide_behind_large_primes(self):
        # A program that looks at remainders by a prime must not be led astray by that prime.
        for prime in (2 ** 31 - 1, 2 ** 61 - 1, 998244353, 10 ** 9 + 7):
            self.assertEqual(self.check([1, prime], [2, prime])[2], 2)
            self.assertEqual(self.check([1, 1], [1 + prime, 1])[2], 2)
            self.assertEqual(self.check([prime, 1], [2 * prime, 3])[2], 2)
            self.assertEqual(self.check(times([1, prime], [1, 1]), times([1, prime], [2, 1]))[2], 2)
            self.assertEqual(self.check(times([1, prime], [1, 1]), times([1, prime], [1 + prime, 1]))[2], 2)

    def test_many(self):
        source = random.Random(2)
        for turn in range(200):
            shared = [source.randint(-3, 3) for k in range(source.randint(1, 4))]
            top = times(shared, [Fraction(source.randint(-3, 3), source.randint(1, 3)) for k in range(4)])
            bottom = times(shared, [Fraction(source.randint(-3, 3), source.randint(1, 3)) for k in range(4)])
            if bottom:
                self.check(top, bottom)
            else:
                self.refused(-1, ask(PLAIN, transfer(top, [0])))
