"""What is a matrix and what is not, for each list of each call."""

from helper import (BACK, FAR, JOIN, LIMIT, OBSERVE, PLACE, PLAIN, PLUS, REALIZE, RESPONSE, SETTLES, TIMES, TRANSFER,
                    TUSTIN, Case, ask, call, column, signal, split_answers, states, told, transfer)
from tickdesign.desk import answers

ONE = transfer([1], [1])
STEP = transfer([1], [-1, 2])

# Calls that are answered, with the places of their parts that have to be matrices.
GOOD_CALLS = [
    ([PLAIN, STEP], [1]),
    ([JOIN, TIMES, STEP, ONE], [2, 3]),
    ([TUSTIN, 1, 1, STEP], [3]),
    ([RESPONSE, STEP, signal([1, 2])], [1]),
    ([PLACE, told([[2]]), told([[3]]), told([[5, 1]])], [1, 2, 3]),
    ([OBSERVE, told([[2]]), told([[3]]), told([[5, 1]])], [1, 2, 3]),
    ([REALIZE, STEP], [1]),
    ([TRANSFER] + states([[2]], [3], [5], 7), [1, 2, 3, 4]),
    ([SETTLES, STEP], [1]),
]

NO_MATRICES = [
    [],
    [1],
    [2, 2],
    [0, 0],
    [0, 1],
    [1, 0],
    [0, 1, 1, 1],
    [-1, -1, 1, 1],
    [1, -1, 1, 1],
    [10, 1] + [1, 1] * 10,
    [1, 10] + [1, 1] * 10,
    [9, 10] + [1, 1] * 90,
    [10, 9] + [1, 1] * 90,
    [FAR, FAR, 1, 1],
    [-FAR, 1, 1, 1],
    [2, 2] + [1, 1] * 3,
    [2, 2] + [1, 1] * 3 + [1],
    [2, 2] + [1, 1] * 4 + [1],
    [2, 2] + [1, 1] * 5,
    [1, 1, 1],
    [1, 1, 1, 1, 1],
    [1, 1, 1, 0],
    [1, 1, 0, 0],
    [1, 1, 1, -1],
    [1, 1, 1, LIMIT],
    [1, 1, 1, FAR],
    [1, 1, 1, -FAR],
    [1, 1, LIMIT, 1],
    [1, 1, -LIMIT, 1],
    [1, 1, FAR, 1],
    [1, 1, -FAR, 1],
    [2, 2] + [1, 1] * 3 + [1, 0],
    [2, 2, 1, 0] + [1, 1] * 3,
    [2, 2] + [1, 1] * 3 + [LIMIT, 1],
    [1] * 7400,
    [FAR] * 7400,
]


class Refused(Case):
    def test_good_calls_are_answered(self):
        for parts, places in GOOD_CALLS:
            self.assertEqual(ask(*parts)[0], 0)

    def test_no_matrix(self):
        for parts, places in GOOD_CALLS:
            for place in places:
                for numbers in NO_MATRICES:
                    with self.subTest(call=parts[0], place=place, numbers=numbers[:12]):
                        self.refused(-6, ask(*(parts[:place] + [numbers] + parts[place + 1:])))

    def test_inputs_that_are_no_entries(self):
        wrong = [[1], [1, 1, 1], [1, 0], [1, -1], [1, LIMIT], [LIMIT, 1], [-LIMIT, 1], [0, 0], [1, 1, 1, 0], [FAR, FAR],
                 [1] * 129, [1, 1] * 64 + [1, 0], [1, 0] * 3700]
        for numbers in wrong:
            with self.subTest(numbers=numbers[:12]):
                self.refused(-6, ask(RESPONSE, STEP, numbers))


class Granted(Case):
    def test_one_row_and_one_column(self):
        self.assertEqual(ask(PLACE, told([[2]]), told([[1]]), told([[-3, 1]])), [0, 1, 1, -1, 1])

    def test_nine_columns(self):
        self.worth(ask(PLAIN, transfer([1] * 9, range(2, 11))), [1] * 9, list(range(2, 11)))

    def test_nine_rows_and_columns_are_a_matrix(self):
        nine = told([[1] * 9] * 9)
        self.refused(-1, ask(PLAIN, nine))
        self.refused(-1, ask(PLACE, nine, told([[1]] * 9), told([[1] * 9])))
        self.refused(-1, ask(OBSERVE, nine, told([[1] * 9]), told([[1] * 9])))
        self.refused(-1, ask(REALIZE, nine))
        self.refused(-1, ask(TRANSFER, nine, told([[1]] * 9), told([[1] * 9]), told([[1]])))
        self.refused(-1, ask(SETTLES, nine))

    def test_entries_as_large_as_may_be(self):
        most = LIMIT - 1
        for over in (most, -most):
            answer = ask(PLAIN, transfer([(over, most), (1, most), (over, 1)], [(1, 1)]))
            self.assertEqual(answer[:3], [0, 2, 3])
            self.assertEqual(answer[3:9], [over // most, 1, 1, most, over, 1])

    def test_entries_just_below_and_just_at_the_limit(self):
        for entry, answer in (((LIMIT - 1, 1), 0), ((1 - LIMIT, 1), 0), ((1, LIMIT - 1), 0), ((0, LIMIT - 1), 0),
                              ((LIMIT, 1), -6), ((-LIMIT, 1), -6), ((1, LIMIT), -6), ((0, LIMIT), -6), ((0, 0), -6)):
            self.assertEqual(ask(PLAIN, transfer([entry], [1]))[0], answer)
            self.assertEqual(ask(RESPONSE, ONE, list(entry))[0], answer)
            self.assertEqual(ask(OBSERVE, told([[entry]]), told([[1]]), told([[0, 1]]))[0], answer)
            self.assertEqual(ask(REALIZE, transfer([1], [entry, 1]))[0], answer)
            self.assertEqual(ask(SETTLES, transfer([1], [entry, 1]))[0], answer)
            for place in range(4):
                four = [told([[1]])] * 4
                four[place] = told([[entry]])
                self.assertEqual(ask(TRANSFER, *four)[0], answer)

    def test_lowest_terms(self):
        self.assertEqual(ask(PLAIN, transfer([(6, 4)], [(10, 5)])), [0, 2, 1, 3, 4, 1, 1])
        self.assertEqual(ask(RESPONSE, transfer([(6, 4)], [(3, 3)]), [-10, 15, 0, 7]), [0, -1, 1, 0, 1])
        self.assertEqual(ask(PLACE, told([[(4, 8)]]), told([[(6, 9)]]), told([[(0, 5), (7, 7)]])), [0, 1, 1, 3, 4])
        self.assertEqual(ask(OBSERVE, told([[(4, 8)]]), told([[(6, 9)]]), told([[(0, 5), (7, 7)]])), [0, 1, 1, 3, 4])
        self.assertEqual(ask(REALIZE, transfer([(6, 4)], [(10, 4), (3, 3)])),
                         [0, 1, 1, -5, 2, 1, 1, 1, 1, 1, 1, 3, 2, 1, 1, 0, 1])
        self.assertEqual(ask(TRANSFER, *states([[(4, 8)]], [(6, 9)], [(9, 6)], (0, 7))),
                         [0, 2, 2, 1, 1, 0, 1, -1, 2, 1, 1])


class Order(Case):
    def test_no_matrix_comes_before_not_fitting(self):
        broken = [2, 1, 1, 1, 1]
        self.refused(-6, ask(JOIN, 3, broken, ONE))
        self.refused(-6, ask(JOIN, -1, ONE, broken))
        self.refused(-6, ask(JOIN, TIMES, told([[1]]), broken))
        self.refused(-6, ask(JOIN, TIMES, transfer([1], [0]), broken))
        self.refused(-6, ask(TUSTIN, 0, 1, broken))
        self.refused(-6, ask(TUSTIN, 1, LIMIT, broken))
        self.refused(-6, ask(RESPONSE, told([[1]]), [1]))
        self.refused(-6, ask(RESPONSE, transfer([0, 1], [1]), [1, 0]))
        self.refused(-6, ask(RESPONSE, ONE, [1, 1] * 64 + [1, 0]))
        self.refused(-6, ask(RESPONSE, ONE, [1, 1] * 65 + [1]))
        self.refused(-6, ask(RESPONSE, [], [1, 1] * 65))
        self.refused(-6, ask(PLACE, told([[1, 2]]), told([[1]]), broken))
        self.refused(-6, ask(PLACE, told([[1, 2]]), broken, told([[1]])))
        self.refused(-6, ask(PLACE, broken, told([[1, 2]]), told([[1]])))
        self.refused(-6, ask(OBSERVE, told([[1, 2]]), told([[1]]), broken))
        self.refused(-6, ask(OBSERVE, told([[1, 2]]), broken, told([[1]])))
        self.refused(-6, ask(OBSERVE, broken, told([[1, 2]]), told([[1]])))

    def test_no_matrix_comes_before_not_fitting_in_one_list(self):
        # One row, three rows, a bottom of 0, one that can't be run, a bottom of degree 0: each with an entry amiss.
        wrongs = [told([[1, (1, 0)]]), told([[1], [1], [(LIMIT, 1)]]), transfer([(1, 0)], [0]), transfer([1], [(0, 0)]),
                  transfer([1, 1], [1, (0, -1)]), transfer([(LIMIT, 1)], [1])]
        for wrong in wrongs:
            for number in (PLAIN, REALIZE, SETTLES):
                self.refused(-6, ask(number, wrong))

    def test_no_matrix_comes_before_shapes_that_do_not_fit(self):
        # Each list that is none, with each other one that doesn't fit: before it and behind it.
        for number, right in ((PLACE, [told([[2]]), told([[3]]), told([[5, 1]])]),
                              (OBSERVE, [told([[2]]), told([[3]]), told([[5, 1]])]),
                              (TRANSFER, states([[2]], [3], [5], 7))):
            self.assertEqual(ask(number, *right)[0], 0)
            for shaped in range(len(right)):
                lists = list(right)
                lists[shaped] = told([[1, 2], [3, 4], [5, 6]])
                self.refused(-1, ask(number, *lists))
                for place in range(len(right)):
                    for broken in ([], [1, 1, 1], [1, 1, 1, 0], [1, 1, LIMIT, 1], [10, 1] + [1, 1] * 10):
                        self.refused(-6, ask(number, *(lists[:place] + [broken] + lists[place + 1:])))

    def test_not_fitting_comes_before_not_possible(self):
        minus = transfer([-1], [1])
        self.refused(-4, ask(JOIN, BACK, ONE, minus))
        self.refused(-1, ask(JOIN, BACK + 1, ONE, minus))
        self.refused(-1, ask(JOIN, BACK, ONE, transfer([-1], [0])))
        still = told([[1, 0], [0, 1]])
        self.refused(-4, ask(PLACE, still, column([1, 1]), told([[0, 0, 1]])))
        self.refused(-1, ask(PLACE, still, column([1, 1]), told([[0, 0, 2]])))
        self.refused(-1, ask(PLACE, still, column([1, 1, 1]), told([[0, 0, 1]])))
        self.refused(-4, ask(OBSERVE, still, told([[1, 1]]), told([[0, 0, 1]])))
        self.refused(-1, ask(OBSERVE, still, told([[1, 1]]), told([[0, 0, 2]])))
        self.refused(-1, ask(OBSERVE, still, told([[1, 1]]), told([[0, 0, 1], [0, 0, 1]])))
        self.refused(-1, ask(OBSERVE, still, told([[0, 0, 0]]), told([[0, 0, 1]])))
        nine = told([[0] * 9] * 9)
        self.refused(-1, ask(PLACE, nine, column([0] * 9), told([[0] * 8 + [1]])))
        self.refused(-1, ask(OBSERVE, nine, told([[0] * 9]), told([[0] * 8 + [1]])))

    def test_too_many_places_come_behind_not_possible(self):
        long = [3, 1, 4, 1, 5, 9, 2, 6, 5]
        short = [1, 2]
        self.refused(-4, ask(JOIN, BACK, transfer(long, short), transfer([-n for n in short], long)))
        self.refused(-1, ask(JOIN, BACK, transfer(long, short), transfer(short, long[::-1])))

    def test_no_matrix_comes_before_not_possible(self):
        for number in (PLACE, OBSERVE):
            self.refused(-4, ask(number, told([[1]]), told([[0]]), told([[0, 1]])))
            self.refused(-6, ask(number, told([[1]]), told([[0]]), []))
            self.refused(-6, ask(number, told([[1]]), told([[0]]), told([[0, (1, 0)]])))
        self.refused(-6, ask(JOIN, BACK, ONE, transfer([-1], [(1, LIMIT)])))

    def test_refusals_stand_alone_in_a_list(self):
        calls = call(PLAIN, []) + call(PLAIN, told([[1]])) + call(PLACE, told([[1]]), told([[0]]), told([[0, 1]]))
        self.assertEqual(answers(calls), [1, -6, 1, -1, 1, -4])
        self.assertEqual(split_answers(answers(calls)), [[-6], [-1], [-4]])
        self.assertEqual(answers(call(JOIN, PLUS, ONE, ONE)), [7, 0, 2, 1, 2, 1, 1, 1])
