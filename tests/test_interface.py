"""How calls and answers are laid out, and that nothing is changed, kept or printed."""

import contextlib
import doctest
import io
import random
from pathlib import Path

from helper import (BACK, FAR, JOIN, OBSERVE, PLACE, PLAIN, PLUS, REALIZE, RESPONSE, SETTLES, TIMES, TRANSFER, TUSTIN,
                    Case, ask, call, column, signal, split_answers, states, told, transfer)
from tickdesign.desk import answers

STEP = transfer([1], [-1, 2])
ANSWERED = [
    [PLAIN, STEP],
    [JOIN, TIMES, STEP, STEP],
    [JOIN, PLUS, STEP, STEP],
    [JOIN, BACK, STEP, STEP],
    [TUSTIN, 1, 2, STEP],
    [RESPONSE, STEP, signal([1, 2, 3])],
    [PLACE, told([[0, 1], [2, 3]]), column([0, 1]), told([[5, 7, 1]])],
    [OBSERVE, told([[0, 1], [2, 3]]), told([[1, 0]]), told([[5, 7, 1]])],
    [REALIZE, transfer([1, 2], [3, 4, 5])],
    [TRANSFER] + states([[0, 1], [2, 3]], [4, 5], [6, 7], 8),
    [SETTLES, STEP],
    [SETTLES, transfer([1], [2, 1])],
]
EACH = ANSWERED + [
    [RESPONSE, STEP, []],
    [PLAIN, []],
    [JOIN, 9, STEP, STEP],
    [JOIN, BACK, transfer([1], [1]), transfer([-1], [1])],
    [OBSERVE, told([[1]]), told([[0]]), told([[5, 1]])],
    [REALIZE, transfer([1], [1])],
    [TRANSFER, [], [], [], []],
    [SETTLES, transfer([0, 1], [1])],
]


class Unchanged(list):
    """A list that can be read only."""

    def refuse(self, *args, **kwargs):
        raise AssertionError("what is handed in is not to be changed")

    __setitem__ = __delitem__ = __iadd__ = __imul__ = refuse
    append = clear = extend = insert = pop = remove = reverse = sort = refuse


class Layout(Case):
    def test_one_call(self):
        self.assertEqual(answers([1, 6, 2, 1, 3, 1, 2, 1]), [7, 0, 2, 1, 3, 2, 1, 1])
        self.assertEqual(answers([2, 1, 6, 2, 1, 3, 1, 2, 1, 6, 2, 1, 1, 1, 2, 1]), [7, 0, 2, 1, 2, 1, 1, 1])
        self.assertEqual(answers([3, 1, 1, 6, 2, 1, 3, 1, 2, 1]), [7, 0, 2, 1, 3, 2, 1, 1])
        self.assertEqual(answers([4, 6, 2, 1, 3, 1, 2, 1, 4, 1, 1, 1, 3]), [5, 0, 3, 2, 1, 2])
        self.assertEqual(answers([4, 6, 2, 1, 3, 1, 2, 1, 0]), [1, 0])
        self.assertEqual(answers([5, 4, 1, 1, 2, 1, 4, 1, 1, 3, 1, 6, 1, 2, 5, 1, 1, 1]), [5, 0, 1, 1, 7, 3])
        self.assertEqual(answers([6, 4, 1, 1, 2, 1, 4, 1, 1, 3, 1, 6, 1, 2, 5, 1, 1, 1]), [5, 0, 1, 1, 7, 3])
        self.assertEqual(answers([7, 10, 2, 2, 3, 1, 4, 1, 5, 1, 2, 1]),
                         [17, 0, 1, 1, -5, 2, 1, 1, 1, 1, 1, 1, -7, 2, 1, 1, 2, 1])
        self.assertEqual(answers([8, 4, 1, 1, 2, 1, 4, 1, 1, 3, 1, 4, 1, 1, 5, 1, 4, 1, 1, 7, 1]),
                         [11, 0, 2, 2, 1, 1, 7, 1, -2, 1, 1, 1])
        self.assertEqual(answers([9, 10, 2, 2, 3, 1, 0, 1, 1, 1, 2, 1]), [2, 0, 1])
        self.assertEqual(answers([9, 10, 2, 2, 3, 1, 0, 1, 2, 1, 1, 1]), [2, 0, 0])
        self.assertEqual(answers([1, 0]), [1, -6])

    def test_all_nine_calls_in_one_list(self):
        self.assertEqual(sorted({parts[0] for parts in ANSWERED}), list(range(1, 10)))
        calls = [number for parts in ANSWERED for number in call(*parts)]
        found = split_answers(answers(calls))
        self.assertEqual([answer[0] for answer in found], [0] * len(ANSWERED))
        self.assertEqual(found, [ask(*parts) for parts in ANSWERED])

    def test_each_call_without_a_number_in_its_lists(self):
        calls = [1, 0, 2, 0, 0, 0, 3, 1, 1, 0, 4, 0, 0, 5, 0, 0, 0, 6, 0, 0, 0, 7, 0, 8, 0, 0, 0, 0, 9, 0]
        self.assertEqual(answers(calls), [1, -6] * 9)

    def test_many_calls_answer_as_each_alone(self):
        source = random.Random(13)
        for turn in range(20):
            chosen = [source.choice(EACH) for k in range(source.randint(1, 40))]
            calls = [number for parts in chosen for number in call(*parts)]
            self.assertEqual(split_answers(answers(calls)), [ask(*parts) for parts in chosen])

    def test_400_calls(self):
        self.assertEqual(answers([1, 6, 2, 1, 3, 1, 2, 1] * 400), [7, 0, 2, 1, 3, 2, 1, 1] * 400)
        self.assertEqual(answers([4, 0, 0] * 400), [1, -6] * 400)
        self.assertEqual(answers([9, 6, 2, 1, 3, 1, 2, 1] * 400), [2, 0, 1] * 400)
        self.assertEqual(answers([8, 0, 0, 0, 0] * 400), [1, -6] * 400)
        chosen = [EACH[k % len(EACH)] for k in range(400)]
        calls = [number for parts in chosen for number in call(*parts)]
        self.assertLessEqual(len(calls), 7500)
        self.assertEqual(split_answers(answers(calls)), [ask(*parts) for parts in EACH] * 20)

    def test_7500_numbers(self):
        calls = [number for parts in EACH for number in call(*parts)] * 18
        rest = 7500 - len(calls)
        calls = calls + [PLAIN, rest - 2] + [1] * (rest - 2)
        self.assertEqual(len(calls), 7500)
        before = list(calls)
        found = answers(calls)
        self.assertEqual(calls, before)
        self.assertEqual(split_answers(found), [ask(*parts) for parts in EACH] * 18 + [[-6]])
        self.assertEqual(answers(calls), found)

    def test_7500_numbers_in_few_calls(self):
        for number in (PLAIN, REALIZE, SETTLES):
            calls = call(number, [2, 1] + [1, 1] * 3699) + call(number, [1] * 96)
            self.assertEqual(len(calls), 7500)
            self.assertEqual(answers(calls), [1, -6, 1, -6])
        calls = call(TRANSFER, [1] * 7400, [9] * 20, [9] * 40, [9] * 35)
        self.assertEqual(len(calls), 7500)
        self.assertEqual(answers(calls), [1, -6])

    def test_long_lists(self):
        for number in (0, 1, 2, FAR, -FAR):
            self.refused(-6, ask(PLAIN, [number] * 7400))
            self.refused(-6, ask(RESPONSE, [number] * 7400, []))
            self.refused(-6, ask(PLACE, told([[1]]), told([[1]]), [number] * 7400))
            self.refused(-6, ask(OBSERVE, told([[1]]), told([[1]]), [number] * 7400))
            self.refused(-6, ask(REALIZE, [number] * 7400))
            self.refused(-6, ask(TRANSFER, told([[1]]), told([[1]]), told([[1]]), [number] * 7400))
            self.refused(-6, ask(SETTLES, [number] * 7400))
        self.refused(-1, ask(RESPONSE, STEP, [1, 1] * 3700))

    def test_numbers_as_far_as_may_be_handed_in(self):
        for far in (FAR, -FAR, FAR - 1, 1 - FAR):
            self.refused(-1, ask(JOIN, far, STEP, STEP))
            self.refused(-1, ask(TUSTIN, far, 1, STEP))
            self.refused(-1, ask(TUSTIN, 1, far, STEP))
            for parts in ANSWERED:
                for place, part in enumerate(parts):
                    if isinstance(part, list):
                        for at in range(len(part)):
                            changed = part[:at] + [far] + part[at + 1:]
                            self.refused(-6, ask(*(parts[:place] + [changed] + parts[place + 1:])))


class Untouched(Case):
    def test_the_list_is_afterwards_as_it_was(self):
        calls = [number for parts in EACH for number in call(*parts)]
        before = list(calls)
        answers(calls)
        self.assertEqual(calls, before)

    def test_the_list_is_not_changed_for_a_while(self):
        calls = [number for parts in EACH for number in call(*parts)]
        self.assertEqual(answers(Unchanged(calls)), answers(calls))

    def test_nothing_is_kept(self):
        calls = [number for parts in EACH for number in call(*parts)]
        first = answers(calls)
        first_kept = list(first)
        first.clear()
        answers(call(PLAIN, transfer([5], [7, 1])))
        self.assertEqual(answers(calls), first_kept)
        turned = [number for parts in EACH[::-1] for number in call(*parts)]
        self.assertEqual(split_answers(answers(turned)), split_answers(first_kept)[::-1])

    def test_whole_numbers_in_a_list(self):
        calls = [number for parts in EACH for number in call(*parts)]
        found = answers(calls)
        self.assertIs(type(found), list)
        self.assertEqual({type(number) for number in found}, {int})

    def test_nothing_is_printed(self):
        shown = io.StringIO()
        with contextlib.redirect_stdout(shown), contextlib.redirect_stderr(shown):
            for parts in EACH:
                answers(call(*parts))
        self.assertEqual(shown.getvalue(), "")


class Readme(Case):
    def test_the_examples_of_the_readme_hold(self):
        path = Path(__file__).resolve().parent.parent / "README.md"
        found = doctest.testfile(str(path), module_relative=False, encoding="utf-8")
        self.assertGreater(found.attempted, 0)
        self.assertEqual(found.failed, 0)
