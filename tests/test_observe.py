"""Promise 6: observe."""

import random
from fractions import Fraction

from helper import (LIMIT, OBSERVE, PLACE, Case, ask, chain, column, is_characteristic, product_of, reaches, told,
                    transposed)


class Observe(Case):
    def check(self, a, c, f):
        """a - l c has f as its characteristic polynomial, and l is a column."""
        size = len(a)
        answer = ask(OBSERVE, told(a), told([c]), told([f]))
        gains = [row[0] for row in self.matrix_of(answer, size, 1)]
        closed = [[Fraction(a[i][j]) - gains[i] * Fraction(c[j]) for j in range(size)] for i in range(size)]
        self.assertTrue(is_characteristic(f, closed))
        return answer

    def test_one_state(self):
        self.assertEqual(self.check([[3]], [2], [5, 1]), [0, 1, 1, 4, 1])
        self.assertEqual(self.check([[Fraction(1, 2)]], [Fraction(-2, 3)], [Fraction(1, 4), 1]), [0, 1, 1, -9, 8])
        self.assertEqual(self.check([[0]], [1], [0, 1]), [0, 1, 1, 0, 1])

    def test_two_states(self):
        self.assertEqual(self.check([[0, 1], [0, 0]], [1, 0], [3, 4, 1]), [0, 2, 1, 4, 1, 3, 1])
        self.assertEqual(self.check([[1, 1], [0, 1]], [1, 0], [0, 0, 1]), [0, 2, 1, 2, 1, 1, 1])
        self.assertEqual(self.check([[1, 0], [5, 2]], [0, 1], [0, 0, 1]), [0, 2, 1, 1, 5, 3, 1])
        self.assertEqual(self.check([[1, 1], [0, 1]], [Fraction(1, 2), 1], [0, 0, 1]), [0, 2, 1, 0, 1, 2, 1])

    def test_each_size_to_8(self):
        for size in range(1, 9):
            a, fed = chain(size)
            wish = product_of([[Fraction(k, 2), 1] for k in range(1, size + 1)])
            self.check(a, fed[::-1], wish)
            answer = self.check(transposed(a), fed, wish)
            self.assertEqual(self.entries_of(answer[3:]), wish[:-1])

    def test_nothing_to_do(self):
        self.assertEqual(self.check([[0, 1], [-2, -3]], [1, 0], [2, 3, 1]), [0, 2, 1, 0, 1, 0, 1])

    def test_9_rows(self):
        a, fed = chain(9)
        for f in ([1] * 9, [0] * 8 + [1], [1]):
            self.refused(-1, ask(OBSERVE, told(a), told([fed[::-1]]), told([f])))
            self.refused(-1, ask(OBSERVE, told(a), told([fed[:0:-1]]), told([f])))

    def test_shapes_that_do_not_fit(self):
        a, c, f = told([[0, 1], [0, 0]]), told([[1, 0]]), told([[3, 4, 1]])
        self.assertEqual(ask(OBSERVE, a, c, f)[0], 0)
        for wrong in (told([[0, 1]]), told([[0], [1]]), told([[0, 1, 2], [3, 4, 5]]), told([[0, 1]] * 3), told([[1]]),
                      told([[1, 0, 0], [0, 1, 0], [0, 0, 1]])):
            self.refused(-1, ask(OBSERVE, wrong, c, f))
        for wrong in (told([[1, 0], [0, 1]]), told([[1, 0]] * 2), told([[1]]), told([[1, 0, 0]]), column([1, 0]),
                      told([[1] * 9]), told([[1] * 9] * 2)):
            self.refused(-1, ask(OBSERVE, a, wrong, f))
        for wrong in (column([3, 4, 1]), told([[3, 4, 1]] * 2), told([[3, 4, 1]] * 9)):
            self.refused(-1, ask(OBSERVE, a, c, wrong))

    def test_shapes_that_do_not_fit_with_one_state(self):
        self.refused(-1, ask(OBSERVE, told([[3]]), column([1, 1]), told([[5, 1]])))
        self.refused(-1, ask(OBSERVE, told([[3]]), told([[1, 1]]), told([[5, 1]])))
        self.refused(-1, ask(OBSERVE, told([[3, 3]]), told([[1]]), told([[5, 1]])))
        self.refused(-1, ask(OBSERVE, column([3, 3]), told([[1]]), told([[5, 1]])))

    def test_wishes_that_do_not_fit(self):
        a, c = told([[0, 1], [0, 0]]), told([[1, 0]])
        for wrong in ([4, 1], [1], [0], [1, 0, 0], [3, 1, 0], [0, 0, 0], [3, 4, 1, 1], [3, 4, 0, 1], [1] * 9,
                      [3, 4, 2], [3, 4, -1], [3, 4, Fraction(1, 2)], [3, 4, (2, 1)], [3, 4, (1, LIMIT - 1)],
                      [3, 4, 1, 0, Fraction(1, 7)], [3, 4, 1, 0, 0, 0, 0, 0, -1], [3, 4, 2, 0, 0]):
            self.refused(-1, ask(OBSERVE, a, c, told([wrong])))

    def test_places_above_the_degree_that_are_0(self):
        a, c = told([[0, 1], [0, 0]]), told([[1, 0]])
        for right in ([3, 4, 1, 0], [3, 4, 1, (0, 5)], [3, 4, 1] + [0] * 6, [(9, 3), (8, 2), (7, 7), 0]):
            self.assertEqual(ask(OBSERVE, a, c, told([right])), [0, 2, 1, 4, 1, 3, 1])
        most = LIMIT - 1
        self.assertEqual(ask(OBSERVE, a, c, told([[3, 4, (most, most)]])), [0, 2, 1, 4, 1, 3, 1])

    def test_reached_by_a_turned_about_is_what_counts(self):
        a = [[0, 1], [0, 0]]
        self.assertTrue(reaches(a, [0, 1]))
        self.refused(-4, ask(OBSERVE, told(a), told([[0, 1]]), told([[3, 4, 1]])))
        self.assertFalse(reaches(a, [1, 0]))
        self.check(a, [1, 0], [3, 4, 1])
        for size in range(2, 9):
            a, fed = chain(size)
            wish = [1] * (size + 1)
            self.assertTrue(reaches(a, fed))
            self.refused(-4, ask(OBSERVE, told(a), told([fed]), told([wish])))
            self.assertFalse(reaches(a, fed[::-1]))
            self.check(a, fed[::-1], wish)

    def test_not_all_is_reached(self):
        for a, c in (([[3]], [0]),
                     ([[1, 0], [0, 1]], [1, 2]),
                     ([[1, 2], [3, 4]], [0, 0]),
                     ([[2, 0], [0, 3]], [0, 1]),
                     ([[2, 0], [0, 3]], [1, 0]),
                     ([[1, 0, 0], [0, 2, 0], [0, 0, 2]], [1, 1, 1]),
                     ([[1, 0, 0], [0, 2, 0], [0, 0, 3]], [1, 1, 0]),
                     ([[1, 0, 0], [0, 2, 0], [0, 0, 3]], [0, 1, 1]),
                     ([[Fraction(1, 3), 0], [0, Fraction(1, 3)]], [Fraction(1, 7), 5])):
            self.refused(-4, ask(OBSERVE, told(a), told([c]), told([[0] * len(a) + [1]])))

    def test_not_all_is_reached_with_8_states(self):
        a, fed = chain(8)
        wish = told([[1] * 9])
        for break_at in range(7):
            broken = [list(row) for row in a]
            broken[break_at][break_at + 1] = 0
            self.refused(-4, ask(OBSERVE, told(broken), told([fed[::-1]]), wish))
        spread = [[k + 1 if k == i else 0 for k in range(8)] for i in range(8)]
        self.check(spread, [1] * 8, [1] * 9)
        spread[7][7] = 1
        self.refused(-4, ask(OBSERVE, told(spread), told([[1] * 8]), wish))

    def test_it_is_place_turned_about(self):
        source = random.Random(14)
        for size in range(1, 9):
            a = [[source.randint(-9, 9) for k in range(size)] for i in range(size)]
            c = [source.randint(1, 9) for k in range(size)]
            f = told([[source.randint(-9, 9) for k in range(size)] + [1]])
            placed = ask(PLACE, told(transposed(a)), column(c), f)
            self.assertEqual(placed[:3], [0, 1, size])
            self.assertEqual(ask(OBSERVE, told(a), told([c]), f), [0, size, 1] + placed[3:])

    def test_large_numbers(self):
        source = random.Random(15)

        def row(places):
            return [Fraction(source.randrange(1 - LIMIT, LIMIT), source.randrange(1, LIMIT)) for k in range(places)]
        self.check([row(4) for i in range(4)], row(4), row(4) + [1])
        whole = [[source.randrange(1 - LIMIT, LIMIT) for k in range(8)] for i in range(8)]
        self.check(whole, whole[0][::-1], row(8) + [1])

    def test_many(self):
        source = random.Random(16)
        seen = {0: 0, -4: 0}
        for turn in range(200):
            size = source.randint(1, 4)
            a = [[Fraction(source.randint(-2, 2), source.randint(1, 2)) for k in range(size)] for i in range(size)]
            c = [source.randint(-1, 1) for i in range(size)]
            f = [Fraction(source.randint(-4, 4), source.randint(1, 3)) for i in range(size)] + [1]
            answer = ask(OBSERVE, told(a), told([c]), told([f]))
            seen[answer[0]] += 1
            self.assertEqual(answer[0] == 0, reaches(transposed(a), c))
            if answer[0] == 0:
                self.check(a, c, f)
        self.assertGreater(min(seen.values()), 10)
