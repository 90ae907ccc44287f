"""Promise 8: transfer."""

import random
from fractions import Fraction

from helper import (LIMIT, TRANSFER, Case, ask, chain, column, determinant, product_of, run_states, states, told,
                    transposed, trim, value)


def solved(rows, right):
    """The x for which rows x is right; the rows have to have the full rank."""
    lines = [[Fraction(entry) for entry in row] + [Fraction(entry)] for row, entry in zip(rows, right)]
    for step in range(len(lines)):
        fit = [k for k in range(step, len(lines)) if lines[k][step] != 0][0]
        lines[step], lines[fit] = lines[fit], lines[step]
        lines[step] = [entry / lines[step][step] for entry in lines[step]]
        for k in range(len(lines)):
            if k != step:
                factor = lines[k][step]
                lines[k] = [one - factor * other for one, other in zip(lines[k], lines[step])]
    return [line[-1] for line in lines]


def diagonal(entries):
    return [[entry if k == i else 0 for k in range(len(entries))] for i, entry in enumerate(entries)]


class Transfer(Case):
    def check(self, a, b, c, d):
        """The answer runs as the states do: over so many ticks two of such degrees differ or are the same."""
        answer = ask(TRANSFER, *states(a, b, c, d))
        top, bottom = self.plain_of(answer)
        self.assertLessEqual(len(top), len(bottom))
        self.assertLessEqual(len(bottom), len(a) + 1)
        pulse = [1] + [0] * (2 * len(a))
        self.runs(top, bottom, pulse, run_states(a, b, c, d, pulse))
        return answer

    def check_values(self, a, b, c, d, places):
        """The answer has the value c (z - a)^-1 b + d at so many places; that it is plain is not looked at here."""
        answer = ask(TRANSFER, *states(a, b, c, d))
        top, bottom = [trim(row) for row in self.matrix_of(answer, 2, answer[2])]
        for z in range(2, 2 + places):
            shifted = [[(z if i == k else 0) - entry for k, entry in enumerate(row)] for i, row in enumerate(a)]
            found = sum(one * other for one, other in zip(c, solved(shifted, b))) + d
            self.assertEqual(value(top, z), found * value(bottom, z))
        return top, bottom

    def test_one_state(self):
        self.assertEqual(self.check([[3]], [2], [5], 0), [0, 2, 2, 10, 1, 0, 1, -3, 1, 1, 1])
        self.assertEqual(self.check([[3]], [2], [5], 7), [0, 2, 2, -11, 1, 7, 1, -3, 1, 1, 1])
        self.assertEqual(self.check([[Fraction(1, 2)]], [Fraction(1, 3)], [Fraction(1, 5)], Fraction(1, 7)),
                         [0, 2, 2, -1, 210, 1, 7, -1, 2, 1, 1])
        self.assertEqual(self.check([[0]], [1], [1], 0), [0, 2, 2, 1, 1, 0, 1, 0, 1, 1, 1])

    def test_two_states(self):
        self.assertEqual(self.check([[0, 1], [-3, -4]], [0, 1], [1, 2], 0),
                         [0, 2, 3, 1, 1, 2, 1, 0, 1, 3, 1, 4, 1, 1, 1])
        self.assertEqual(self.check([[1, 1], [0, 1]], [0, 1], [1, 0], 0),
                         [0, 2, 3, 1, 1, 0, 1, 0, 1, 1, 1, -2, 1, 1, 1])
        self.assertEqual(self.check([[1, 2], [3, 4]], [5, 6], [7, 8], 9),
                         [0, 2, 3, -2, 1, 38, 1, 9, 1, -2, 1, -5, 1, 1, 1])

    def test_each_size_to_8(self):
        source = random.Random(19)
        for size in range(1, 9):
            a = [[source.randint(-3, 3) for k in range(size)] for i in range(size)]
            b = [source.randint(1, 3) for i in range(size)]
            c = [source.randint(1, 3) for i in range(size)]
            self.check(a, b, c, 0)
            self.assertEqual(self.check(a, b, c, 2)[2], size + 1)

    def test_9_rows(self):
        a, b = chain(9)
        self.refused(-1, ask(TRANSFER, *states(a, b, b[::-1], 1)))
        self.refused(-1, ask(TRANSFER, *states(a, b[:8], b[:8], 1)))
        a, b = chain(8)
        self.assertEqual(self.check(a, b, b[::-1], 0), [0, 2, 9, 1, 1] + [0, 1] * 16 + [1, 1])

    def test_shapes_that_do_not_fit(self):
        right = states([[0, 1], [2, 3]], [4, 5], [6, 7], 8)
        self.assertEqual(ask(TRANSFER, *right)[0], 0)
        two = told([[4, 5], [6, 7]])
        wrongs = [
            [told([[0, 1]]), column([0, 1]), told([[0, 1, 2], [3, 4, 5]]), told([[0, 1]] * 3), told([[1]]),
             told(diagonal([1, 2, 3]))],
            [column([4]), column([4, 5, 6]), told([[4, 5]]), two, told([[4]] * 9), told([[4, 5, 6], [4, 5, 6]])],
            [told([[6]]), told([[6, 7, 8]]), column([6, 7]), two, told([[6] * 9]), told([[6, 7]] * 3)],
            [told([[8, 8]]), column([8, 8]), two, told([[8] * 9] * 9)],
        ]
        for place, some in enumerate(wrongs):
            for wrong in some:
                with self.subTest(place=place, wrong=wrong[:8]):
                    self.refused(-1, ask(TRANSFER, *(right[:place] + [wrong] + right[place + 1:])))

    def test_shapes_that_do_not_fit_with_one_state(self):
        right = states([[2]], [3], [5], 7)
        for place in range(4):
            for wrong in (told([[2, 2]]), column([2, 2]), told([[2, 2], [2, 2]])):
                self.refused(-1, ask(TRANSFER, *(right[:place] + [wrong] + right[place + 1:])))

    def test_a_part_is_not_reached(self):
        a = diagonal([2, 3, 5])
        self.assertEqual(self.check(a, [1, 0, 1], [1, 1, 1], 0)[2], 3)
        self.assertEqual(self.check(a, [0, 0, 4], [1, 1, 1], 1), [0, 2, 2, -1, 1, 1, 1, -5, 1, 1, 1])
        self.assertEqual(self.check([[1, 2], [0, 3]], [1, 0], [1, 1], 0), [0, 2, 2, 1, 1, 0, 1, -1, 1, 1, 1])

    def test_a_part_does_not_show(self):
        a = diagonal([2, 3, 5])
        self.assertEqual(self.check(a, [1, 1, 1], [1, 0, 1], 0)[2], 3)
        self.assertEqual(self.check(a, [1, 1, 1], [0, 0, 4], 1), [0, 2, 2, -1, 1, 1, 1, -5, 1, 1, 1])
        self.assertEqual(self.check([[1, 0], [2, 3]], [1, 1], [1, 0], 0), [0, 2, 2, 1, 1, 0, 1, -1, 1, 1, 1])

    def test_what_is_reached_does_not_show(self):
        self.assertEqual(self.check(diagonal([2, 3]), [1, 0], [0, 1], 4), [0, 2, 1, 4, 1, 1, 1])
        self.assertEqual(self.check(diagonal([2, 3]), [1, 0], [0, 1], 0), [0, 2, 1, 0, 1, 1, 1])

    def test_the_same_root_twice(self):
        self.assertEqual(self.check(diagonal([2, 2]), [1, 1], [1, 1], 0), [0, 2, 2, 2, 1, 0, 1, -2, 1, 1, 1])
        self.assertEqual(self.check(diagonal([2, 2]), [1, 1], [1, -1], 3), [0, 2, 1, 3, 1, 1, 1])
        self.assertEqual(self.check([[2, 1], [0, 2]], [0, 1], [1, 0], 0)[2], 3)

    def test_8_states_of_which_fewer_count(self):
        roots = [2, 3, 5, 7, 11, 13, 17, 19]
        for size in range(9):
            b = [1] * size + [0] * (8 - size)
            for fed, shown in ((b, [1] * 8), ([1] * 8, b), (b[::-1], [1] * 8)):
                self.assertEqual(self.check(diagonal(roots), fed, shown, 1)[2], size + 1)
        self.assertEqual(self.check(diagonal([4] * 8), [1] * 8, list(range(8)), 1)[2], 2)

    def test_b_or_c_of_zeros(self):
        for size in range(1, 9):
            a = [[i * k + 1 for k in range(size)] for i in range(size)]
            some, none = list(range(1, size + 1)), [0] * size
            for b, c in ((none, some), (some, none), (none, none)):
                self.assertEqual(self.check(a, b, c, 0), [0, 2, 1, 0, 1, 1, 1])
                self.assertEqual(self.check(a, b, c, 5), [0, 2, 1, 5, 1, 1, 1])
                self.assertEqual(self.check(a, b, c, Fraction(-2, 3)), [0, 2, 1, -2, 3, 1, 1])

    def test_first_numbers_that_are_0(self):
        self.check([[0, 0, 1], [1, 0, 0], [0, 1, 0]], [0, 1, 0], [1, 0, 0], 0)
        self.check([[0] * 4 for i in range(4)], [1, 2, 3, 4], [4, 3, 2, 1], 0)
        self.check([[0, 1, 0, 0], [0, 0, 0, 1], [1, 0, 0, 0], [0, 0, 1, 0]], [0, 0, 1, 0], [0, 1, 0, 0], 1)

    def test_entries_not_in_lowest_terms(self):
        self.assertEqual(ask(TRANSFER, *states([[(6, 2)]], [(4, 2)], [(50, 10)], (0, 9))),
                         [0, 2, 2, 10, 1, 0, 1, -3, 1, 1, 1])

    def test_another_base_of_the_states_does_not_count(self):
        source = random.Random(20)
        for turn in range(20):
            size = source.randint(1, 4)
            rows = [[source.randint(-3, 3) for k in range(size)] for i in range(size + 2)]
            a, b, c = rows[:size], rows[size], rows[size + 1]
            answer = self.check(a, b, c, turn)
            self.assertEqual(self.check(transposed(a), c, b, turn), answer)
            self.assertEqual(self.check(a, [2 * n for n in b], [Fraction(n, 2) for n in c], turn), answer)
            self.assertEqual(self.check([row[::-1] for row in a[::-1]], b[::-1], c[::-1], turn), answer)

    def test_large_numbers(self):
        source = random.Random(21)

        def whole(places):
            return [source.randrange(LIMIT - 10 ** 20, LIMIT) * source.choice([-1, 1]) for k in range(places)]

        def parts(places):
            return [Fraction(over, abs(under)) for over, under in zip(whole(places), whole(places))]
        for row, size in ((whole, 8), (parts, 3), (parts, 8)):
            a, b, c, d = [row(size) for i in range(size)], row(size), row(size), row(1)[0]
            top, bottom = self.check_values(a, b, c, d, 2 * size + 1)
            self.assertEqual(len(bottom), size + 1)
            self.assertEqual(bottom[0], determinant([[-entry for entry in one] for one in a]))

    def test_large_numbers_of_which_fewer_count(self):
        most = LIMIT - 1
        near = [Fraction(most - k, most) for k in range(8)]
        for size in range(9):
            b = [most] * size + [0] * (8 - size)
            top, bottom = self.check_values(diagonal(near), b, [most] * 8, Fraction(1, most), 17)
            self.assertEqual(bottom, product_of([[-root, 1] for root in near[:size]]))
        source = random.Random(22)
        a = [[source.randrange(1 - LIMIT, LIMIT) if k >= i - 1 and (i, k) != (5, 4) else 0 for k in range(8)]
             for i in range(8)]
        self.assertEqual(len(self.check_values(a, [most] + [0] * 7, [most] * 8, 0, 17)[1]), 6)

    def test_many(self):
        source = random.Random(23)
        seen = {}
        for turn in range(200):
            size = source.randint(1, 4)
            a = [[Fraction(source.randint(-2, 2), source.randint(1, 2)) for k in range(size)] for i in range(size)]
            b = [source.randint(-1, 1) for i in range(size)]
            c = [source.randint(-1, 1) for i in range(size)]
            places = self.check(a, b, c, Fraction(source.randint(-2, 2), source.randint(1, 3)))[2]
            seen[places] = seen.get(places, 0) + 1
        self.assertEqual(sorted(seen), [1, 2, 3, 4, 5])
