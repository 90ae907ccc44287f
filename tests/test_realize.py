"""Promise 7: realize."""

import random
from fractions import Fraction

from helper import (LIMIT, PLAIN, REALIZE, RESPONSE, TRANSFER, Case, ask, product_of, run_states, signal, states, times,
                    told, transfer, trim)

PULSE = [1] + [0] * 19
UNEVEN = [Fraction(3, 2), -4, 0, 7, Fraction(-1, 5), 2, 2, 0, 0, -9, 1, 5]


class Realize(Case):
    def four_of(self, answer):
        """The four matrices of an answer: rows, a column, a row, a number."""
        self.assertEqual(answer[0], 0)
        size = answer[1]
        found = []
        rest = answer[1:]
        for rows, columns in ((size, size), (size, 1), (1, size), (1, 1)):
            end = 2 + 2 * rows * columns
            found.append(self.matrix_of([0] + rest[:end], rows, columns))
            rest = rest[end:]
        self.assertEqual(rest, [])
        a, b, c, d = found
        return a, [row[0] for row in b], c[0], d[0][0]

    def check(self, top, bottom):
        """The four matrices look and run as the promise says."""
        f = transfer(top, bottom)
        answer = ask(REALIZE, f)
        a, b, c, d = self.four_of(answer)
        above, below = self.plain_of(ask(PLAIN, f))
        size = len(below) - 1
        above += [0] * (size + 1 - len(above))
        self.assertEqual(len(a), size)
        for i in range(size - 1):
            self.assertEqual(a[i], [1 if k == i + 1 else 0 for k in range(size)])
        self.assertEqual(a[-1], [-number for number in below[:-1]])
        self.assertEqual(b, [0] * (size - 1) + [1])
        self.assertEqual(d, above[size])
        self.assertEqual(c, [above[k] - d * below[k] for k in range(size)])
        self.check_runs(f, (a, b, c, d))
        return answer

    def check_runs(self, f, four):
        """The states answer signals as f does, and f is their transfer function."""
        for inputs in (PULSE, UNEVEN):
            outputs = self.entries_of(ask(RESPONSE, f, signal(inputs))[1:])
            self.assertEqual(run_states(*four, inputs), outputs)
        lists = states(*four)
        if max(abs(number) for numbers in lists for number in numbers) < LIMIT:
            self.assertEqual(ask(TRANSFER, *lists), ask(PLAIN, f))

    def test_one_state(self):
        self.assertEqual(self.check([3], [5, 1]), [0, 1, 1, -5, 1, 1, 1, 1, 1, 1, 1, 3, 1, 1, 1, 0, 1])
        self.assertEqual(self.check([3, 2], [5, 1]), [0, 1, 1, -5, 1, 1, 1, 1, 1, 1, 1, -7, 1, 1, 1, 2, 1])
        self.assertEqual(self.check([3], [5, -2]), [0, 1, 1, 5, 2, 1, 1, 1, 1, 1, 1, -3, 2, 1, 1, 0, 1])

    def test_two_states(self):
        self.assertEqual(self.check([1, 2], [3, 4, 1]),
                         [0, 2, 2, 0, 1, 1, 1, -3, 1, -4, 1, 2, 1, 0, 1, 1, 1, 1, 2, 1, 1, 2, 1, 1, 1, 0, 1])
        self.assertEqual(self.check([1, 2, 5], [3, 4, 2]),
                         [0, 2, 2, 0, 1, 1, 1, -3, 2, -2, 1, 2, 1, 0, 1, 1, 1, 1, 2, -13, 4, -4, 1, 1, 1, 5, 2])

    def test_three_states(self):
        self.assertEqual(self.check([7], [2, 3, 5, 1]),
                         [0, 3, 3, 0, 1, 1, 1, 0, 1, 0, 1, 0, 1, 1, 1, -2, 1, -3, 1, -5, 1,
                          3, 1, 0, 1, 0, 1, 1, 1, 1, 3, 7, 1, 0, 1, 0, 1, 1, 1, 0, 1])

    def test_each_degree_to_8(self):
        for degree in range(1, 9):
            bottom = product_of([[k, 2] for k in range(1, degree + 1)])
            for places in range(1, degree + 2):
                top = [Fraction(k * k + 2, 3) for k in range(places)]
                answer = self.check(top, bottom)
                self.assertEqual(answer[1], degree)
                self.assertEqual(answer[-2:] == [0, 1], places <= degree)

    def test_roots_at_0(self):
        self.check([1], [0, 1])
        self.check([1], [0] * 8 + [1])
        self.check([3, 0, 0, 0, 0, 0, 0, 0, 5], [0] * 8 + [7])
        self.check([0, 0, 1], [1, 0, 0, 1])

    def test_it_cannot_be_run(self):
        for top, bottom in (([0, 1], [1]), ([1, 1, 1], [1, 1]), ([0] * 8 + [1], [1] * 8), ([0, 0, 1], [0, 5]),
                            (times([1, 1], [1, 0, 1]), times([1, 1], [2, 1])), ([1, 2, 1], [1, 1])):
            self.refused(-1, ask(REALIZE, transfer(top, bottom)))

    def test_it_can_be_run_only_once_it_is_plain(self):
        # What stands above the degree is 0.
        f = told([[1, 0, 0, (0, 3)], [5, 2, (0, 7), 0]])
        self.assertEqual(ask(REALIZE, f), ask(REALIZE, transfer([1], [5, 2])))
        # Divided by itself, the common part is 1.
        f = transfer(times([1, 1], [3, 2]), times([1, 1], [5, 1]))
        self.assertEqual(ask(REALIZE, f), ask(REALIZE, transfer([3, 2], [5, 1])))

    def test_common_divisors_do_not_count(self):
        shared = product_of([[3, 1], [Fraction(5, 7), 2], [1, 0, 1]])
        answer = self.check(times(shared, [1, 2]), times(shared, [4, 3]))
        self.assertEqual(answer, ask(REALIZE, transfer([1, 2], [4, 3])))
        self.assertEqual(answer[1], 1)
        self.assertEqual(self.check([0, 1], [0, 2, 1])[1], 1)

    def test_a_bottom_of_degree_0(self):
        for top, bottom in (([3], [4]), ([3], [1]), ([-1], [Fraction(1, 2)]), ([3, 0], [4, 0])):
            self.refused(-1, ask(REALIZE, transfer(top, bottom)))

    def test_a_bottom_of_degree_0_only_once_it_is_plain(self):
        shared = product_of([[1, 1], [3, 5]])
        self.refused(-1, ask(REALIZE, transfer(times(shared, [3]), times(shared, [4]))))
        self.refused(-1, ask(REALIZE, transfer([0, 0, 2], [0, 0, 7])))
        self.refused(-1, ask(REALIZE, transfer(range(1, 10), [5 * k for k in range(1, 10)])))

    def test_a_top_of_0(self):
        for bottom in ([1], [7], [-3, 4], [0, 1], [0, 0, 0, 5], [Fraction(1, 3)] * 9):
            self.refused(-1, ask(REALIZE, transfer([0], bottom)))

    def test_wrong_transfer_functions(self):
        for wrong in ([[1, 1]], [[1, 1]] * 3, [[1, 1]] * 9, [[1, 1], [0, 0]], [[0], [0]]):
            self.refused(-1, ask(REALIZE, told(wrong)))

    def test_large_numbers(self):
        source = random.Random(17)

        def row(places):
            return [Fraction(source.randrange(1 - LIMIT, LIMIT), source.randrange(1, LIMIT)) for k in range(places)]
        self.assertEqual(self.check(row(9), row(9))[1], 8)
        self.assertEqual(self.check(row(3), row(8) + [1])[1], 8)
        self.assertEqual(self.check([LIMIT - 1, 1 - LIMIT], [1 - LIMIT, 1])[1], 1)

    def test_many(self):
        source = random.Random(18)
        seen = {0: 0, -1: 0}
        for turn in range(150):
            shared = [source.randint(-3, 3), source.randint(0, 1)]
            top = times(shared, [Fraction(source.randint(-3, 3), source.randint(1, 3)) for k in range(3)])
            bottom = times(shared, [Fraction(source.randint(-3, 3), source.randint(1, 3)) for k in range(3)])
            if not trim(bottom):
                continue
            above, below = self.plain_of(ask(PLAIN, transfer(top, bottom)))
            if len(below) == 1 or len(above) > len(below):
                self.refused(-1, ask(REALIZE, transfer(top, bottom)))
                seen[-1] += 1
            else:
                self.check(top, bottom)
                seen[0] += 1
        self.assertGreater(min(seen.values()), 10)
