"""Promise 4: response."""

import random
from fractions import Fraction

from helper import LIMIT, RESPONSE, Case, ask, common, product_of, signal, times, told, transfer, trim


class Response(Case):
    def check(self, top, bottom, inputs):
        """Top over bottom has to be without common divisors here."""
        answer = ask(RESPONSE, transfer(top, bottom), signal(inputs))
        self.assertEqual(answer[0], 0)
        self.runs(top, bottom, inputs, self.entries_of(answer[1:]))
        return answer

    def test_a_delay(self):
        self.assertEqual(self.check([1], [0, 1], [5, 6, 7]), [0, 0, 1, 5, 1, 6, 1])
        self.assertEqual(self.check([1], [0, 0, 0, 1], [5, 6, 7, 8]), [0, 0, 1, 0, 1, 0, 1, 5, 1])

    def test_a_sum(self):
        self.assertEqual(self.check([0, 1], [-1, 1], [1, 2, 3]), [0, 1, 1, 3, 1, 6, 1])
        self.assertEqual(self.check([1], [-1, 1], [1, 2, 3]), [0, 0, 1, 1, 1, 3, 1])

    def test_a_lag(self):
        self.assertEqual(self.check([1], [Fraction(-1, 2), 1], [1, 0, 0, 0]), [0, 0, 1, 1, 1, 1, 2, 1, 4])

    def test_a_bottom_that_does_not_lead_with_1(self):
        self.assertEqual(self.check([3], [1, -2], [1, 0, 0]), [0, 0, 1, -3, 2, -3, 4])

    def test_no_inputs_and_one(self):
        self.assertEqual(self.check([1], [2, 1], []), [0])
        self.assertEqual(self.check([1, 3], [2, 1], [Fraction(1, 2)]), [0, 3, 2])
        self.assertEqual(self.check([1], [2, 1], [4]), [0, 0, 1])

    def test_64_inputs_and_65(self):
        inputs = [Fraction(k, k + 1) for k in range(64)]
        self.assertEqual(len(self.check([1, 2], [1, 3, 5], inputs)), 129)
        f = transfer([1, 2], [1, 3, 5])
        self.refused(-1, ask(RESPONSE, f, signal(inputs + [1])))
        self.refused(-1, ask(RESPONSE, f, [1, 1] * 3700))

    def test_inputs_not_in_lowest_terms(self):
        self.assertEqual(ask(RESPONSE, transfer([1], [1]), [6, 4, -10, 5, 0, 3]), [0, 3, 2, -2, 1, 0, 1])

    def test_it_cannot_be_run(self):
        for top, bottom in (([0, 1], [1]), ([1, 1, 1], [1, 1]), ([0] * 8 + [1], [1] * 8)):
            self.refused(-1, ask(RESPONSE, transfer(top, bottom), []))
            self.refused(-1, ask(RESPONSE, transfer(top, bottom), [1, 1]))

    def test_it_can_be_run_only_once_it_is_plain(self):
        # What stands above the degree is 0.
        self.assertEqual(ask(RESPONSE, told([[1, 0, 0], [2, 0, 0]]), [1, 1]), [0, 1, 2])
        # With z + 1 in both, the plain one delays and halves.
        shared = [1, 1]
        f = transfer(times(shared, [1]), times(shared, [0, 2]))
        self.assertEqual(ask(RESPONSE, f, [1, 1, 5, 1, 7, 1]), [0, 0, 1, 1, 2, 5, 2])
        # Nothing, over whatever: 0 over 1.
        self.assertEqual(ask(RESPONSE, transfer([0, 0, 0], [0, 1]), [5, 1, 6, 1]), [0, 0, 1, 0, 1])

    def test_common_divisors_do_not_count(self):
        shared = product_of([[3, 1], [Fraction(5, 7), 2], [1, 0, 1]])
        inputs = signal([1, -2, Fraction(3, 4), 5, 0, 9])
        self.assertEqual(ask(RESPONSE, transfer(times(shared, [1, 2]), times(shared, [4, 3])), inputs),
                         ask(RESPONSE, transfer([1, 2], [4, 3]), inputs))

    def test_a_bottom_of_degree_0(self):
        self.assertEqual(self.check([3], [4], [1, 2, Fraction(-1, 3)]), [0, 3, 4, 3, 2, -1, 4])

    def test_inputs_fewer_than_the_degree(self):
        bottom = [1, 2, 3, 4, 5, 6, 7, 8, 9]
        for inputs in range(9):
            self.check([9, 1, 8, 2, 7, 3, 6, 4, 5], bottom, list(range(1, inputs + 1)))

    def test_wrong_transfer_functions(self):
        for wrong in (told([[1, 1]]), told([[1, 1]] * 3), transfer([1, 1], [0]), transfer([0], [0])):
            self.refused(-1, ask(RESPONSE, wrong, [1, 1]))
            self.refused(-1, ask(RESPONSE, wrong, []))

    def test_large_numbers(self):
        source = random.Random(7)

        def row(places):
            return [Fraction(source.randrange(1 - LIMIT, LIMIT), source.randrange(1, LIMIT)) for k in range(places)]
        self.check(row(9), row(9), row(12))
        self.check(row(3), row(3), row(64))

    def test_many(self):
        source = random.Random(8)
        tried = 0
        while tried < 100:
            bottom = [source.randint(-3, 3) for k in range(source.randint(0, 4))] + [source.choice([-2, -1, 1, 3])]
            top = [source.randint(-3, 3) for k in range(len(bottom))]
            if trim(top) and len(common(top, bottom)) == 1:
                tried += 1
                self.check(top, bottom, [Fraction(source.randint(-5, 5), source.randint(1, 4)) for k in range(12)])
