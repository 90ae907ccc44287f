"""Promise 5: place."""

import random
from fractions import Fraction

from helper import LIMIT, PLACE, Case, ask, chain, column, is_characteristic, product_of, reaches, told


class Place(Case):
    def check(self, a, b, f):
        """a - b k has f as its characteristic polynomial."""
        size = len(a)
        answer = ask(PLACE, told(a), column(b), told([f]))
        k = self.matrix_of(answer, 1, size)[0]
        closed = [[Fraction(a[i][j]) - Fraction(b[i]) * k[j] for j in range(size)] for i in range(size)]
        self.assertTrue(is_characteristic(f, closed))
        return answer

    def test_one_state(self):
        self.assertEqual(self.check([[3]], [2], [5, 1]), [0, 1, 1, 4, 1])
        self.assertEqual(self.check([[Fraction(1, 2)]], [Fraction(-2, 3)], [Fraction(1, 4), 1]), [0, 1, 1, -9, 8])
        self.assertEqual(self.check([[0]], [1], [0, 1]), [0, 1, 1, 0, 1])

    def test_two_states(self):
        self.assertEqual(self.check([[1, 1], [0, 1]], [0, 1], [0, 0, 1]), [0, 1, 2, 1, 1, 2, 1])
        self.assertEqual(self.check([[0, 1], [0, 0]], [0, 1], [3, 4, 1]), [0, 1, 2, 3, 1, 4, 1])
        self.assertEqual(self.check([[1, 1], [0, 1]], [Fraction(1, 2), 1], [0, 0, 1]), [0, 1, 2, 1, 1, 3, 2])

    def test_each_size_to_8(self):
        for size in range(1, 9):
            a, b = chain(size)
            wish = product_of([[Fraction(k, 2), 1] for k in range(1, size + 1)])
            answer = self.check(a, b, wish)
            self.assertEqual(self.entries_of(answer[3:]), wish[:-1])
            turned = [row[::-1] for row in a[::-1]]
            self.check(turned, b[::-1], wish)

    def test_nothing_to_do(self):
        self.assertEqual(self.check([[0, 1], [-2, -3]], [0, 1], [2, 3, 1]), [0, 1, 2, 0, 1, 0, 1])

    def test_9_rows(self):
        a, b = chain(9)
        for f in ([1] * 9, [0] * 8 + [1], [1]):
            self.refused(-1, ask(PLACE, told(a), column(b), told([f])))
            self.refused(-1, ask(PLACE, told(a), column(b[:8]), told([f])))

    def test_shapes_that_do_not_fit(self):
        a, b, f = told([[0, 1], [0, 0]]), column([0, 1]), told([[3, 4, 1]])
        self.assertEqual(ask(PLACE, a, b, f)[0], 0)
        for wrong in (told([[0, 1]]), told([[0], [1]]), told([[0, 1, 2], [3, 4, 5]]), told([[0, 1]] * 3), told([[1]]),
                      told([[1, 0, 0], [0, 1, 0], [0, 0, 1]])):
            self.refused(-1, ask(PLACE, wrong, b, f))
        for wrong in (column([1]), column([0, 1, 2]), told([[0, 1]]), told([[0, 1], [1, 0]]), column([0] * 9)):
            self.refused(-1, ask(PLACE, a, wrong, f))
        for wrong in (column([3, 4, 1]), told([[3, 4, 1]] * 2), told([[3, 4, 1]] * 9)):
            self.refused(-1, ask(PLACE, a, b, wrong))

    def test_wishes_that_do_not_fit(self):
        a, b = told([[0, 1], [0, 0]]), column([0, 1])
        for wrong in ([4, 1], [1], [0], [1, 0, 0], [3, 1, 0], [0, 0, 0], [3, 4, 1, 1], [3, 4, 0, 1], [1] * 9,
                      [3, 4, 2], [3, 4, -1], [3, 4, Fraction(1, 2)], [3, 4, (2, 1)], [3, 4, (1, LIMIT - 1)],
                      [3, 4, 1, 0, Fraction(1, 7)], [3, 4, 1, 0, 0, 0, 0, 0, -1], [3, 4, 2, 0, 0]):
            self.refused(-1, ask(PLACE, a, b, told([wrong])))

    def test_places_above_the_degree_that_are_0(self):
        a, b = told([[0, 1], [0, 0]]), column([0, 1])
        for right in ([3, 4, 1, 0], [3, 4, 1, (0, 5)], [3, 4, 1] + [0] * 6, [(9, 3), (8, 2), (7, 7), 0]):
            self.assertEqual(ask(PLACE, a, b, told([right])), [0, 1, 2, 3, 1, 4, 1])
        most = LIMIT - 1
        self.assertEqual(ask(PLACE, a, b, told([[3, 4, (most, most)]])), [0, 1, 2, 3, 1, 4, 1])

    def test_not_all_is_reached(self):
        for a, b in (([[3]], [0]),
                     ([[1, 0], [0, 1]], [1, 2]),
                     ([[1, 1], [0, 1]], [1, 0]),
                     ([[1, 2], [3, 4]], [0, 0]),
                     ([[2, 0], [0, 3]], [0, 1]),
                     ([[2, 0], [0, 3]], [1, 0]),
                     ([[1, 0, 0], [0, 2, 0], [0, 0, 2]], [1, 1, 1]),
                     ([[1, 0, 0], [0, 2, 0], [0, 0, 3]], [1, 1, 0]),
                     ([[1, 0, 0], [0, 2, 0], [0, 0, 3]], [0, 1, 1]),
                     ([[0, 1, 0], [0, 0, 1], [0, 0, 0]], [1, 1, 0]),
                     ([[Fraction(1, 3), 0], [0, Fraction(1, 3)]], [Fraction(1, 7), 5])):
            self.refused(-4, ask(PLACE, told(a), column(b), told([[0] * len(a) + [1]])))

    def test_not_all_is_reached_with_8_states(self):
        a, b = chain(8)
        wish = told([[1] * 9])
        for break_at in range(7):
            broken = [list(row) for row in a]
            broken[break_at][break_at + 1] = 0
            self.refused(-4, ask(PLACE, told(broken), column(b), wish))
        self.refused(-4, ask(PLACE, told(a), column(b[::-1]), wish))
        spread = [[k + 1 if k == i else 0 for k in range(8)] for i in range(8)]
        self.check(spread, [1] * 8, [1] * 9)
        spread[7][7] = 1
        self.refused(-4, ask(PLACE, told(spread), column([1] * 8), wish))

    def test_first_numbers_that_are_0(self):
        self.check([[0, 0, 1], [1, 0, 0], [0, 1, 0]], [0, 1, 0], [1, 2, 3, 1])
        self.check([[0, 1, 0, 0], [0, 0, 0, 1], [1, 0, 0, 0], [0, 0, 1, 0]], [0, 0, 1, 0], [5, 1, 2, 3, 1])

    def test_large_numbers(self):
        source = random.Random(9)

        def row(places):
            return [Fraction(source.randrange(1 - LIMIT, LIMIT), source.randrange(1, LIMIT)) for k in range(places)]
        self.check([row(4) for i in range(4)], row(4), row(4) + [1])
        whole = [[source.randrange(1 - LIMIT, LIMIT) for k in range(8)] for i in range(8)]
        self.check(whole, whole[0][::-1], row(8) + [1])

    def test_many(self):
        source = random.Random(10)
        seen = {0: 0, -4: 0}
        for turn in range(200):
            size = source.randint(1, 4)
            a = [[Fraction(source.randint(-2, 2), source.randint(1, 2)) for k in range(size)] for i in range(size)]
            b = [source.randint(-1, 1) for i in range(size)]
            f = [Fraction(source.randint(-4, 4), source.randint(1, 3)) for i in range(size)] + [1]
            answer = ask(PLACE, told(a), column(b), told([f]))
            seen[answer[0]] += 1
            self.assertEqual(answer[0] == 0, reaches(a, b))
            if answer[0] == 0:
                self.check(a, b, f)
        self.assertGreater(min(seen.values()), 10)
