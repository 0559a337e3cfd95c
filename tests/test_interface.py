"""The form of the interface: the lists, the large numbers, and that nothing is changed or kept."""
import itertools
import random
import unittest

from helper import (
    HIGHEST_NUMBER, KINDS, begins, draw_statement, drop, empty, enough, few_relations, gap, many_relations, steps,
    table, told,
)
from relationtables.service import answers


def flat(calls):
    return list(itertools.chain.from_iterable(calls))


class Lists(unittest.TestCase):

    def test_one_number_or_a_refusal(self):
        self.assertEqual(answers([0, 0, 2]), [1, 0])
        self.assertEqual(answers([0, 4, 2]), [1, -1])
        self.assertEqual(answers([1, 0, 1, 1]), [1, -1])
        self.assertEqual(answers([2, 0]), [1, -2])

    def test_tables(self):
        self.assertEqual(answers([3]), [1, 0])
        self.assertEqual(answers([0, 3, 1, 3]), [1, 0, 1, 0])
        self.assertEqual(answers([0, 3, 2, 3]), [1, 0, 2, 1, 511])
        self.assertEqual(answers([0, 2, 4, 3]), [1, 0, 7, 6, 31, 31, 31, 31, 31, 31])

    def test_steps(self):
        self.assertEqual(answers([4]), [1, 0])
        self.assertEqual(answers([0, 2, 4, 4]), [1, 0, 1, 0])
        self.assertEqual(answers([0, 0, 3, 1, 0, 1, 1, 1, 1, 2, 1, 4]), [1, 0, 1, 0, 1, 1, 5, 1, 0, 2, 1, 1])
        self.assertEqual(answers([0, 0, 3, 1, 2, 0, 0, 4]), [1, 0, 1, 0, 9, 2, 0, 1, 2, 0, 1, 2, 0, 0])

    def test_gaps(self):
        self.assertEqual(answers([6]), [1, 0])
        self.assertEqual(answers([0, 3, 1, 6]), [1, 0, 1, 0])
        self.assertEqual(answers([0, 3, 2, 1, 0, 1, 0, 6]), [1, 0, 1, 0, 1, -6])
        calls = [begins(2, 4), told(0, 1, 28), told(0, 2, 20), told(1, 2, 3), told(0, 3, 14), told(1, 3, 5)]
        calls += [told(2, 3, 17), gap()]
        self.assertEqual(answers(flat(calls))[-14:], [13, 4, 0, 1, 4, 0, 2, 4, 0, 3, 12, 2, 3, 16])

    def test_empty_and_enough(self):
        self.assertEqual(answers([5, 7]), [1, 0, 1, 1])
        self.assertEqual(answers([0, 1, 2, 5, 7, 1, 1, 0, 0, 5, 7]), [1, 0, 1, 0, 1, 1, 1, 0, 1, 1, 1, 1])

    def test_every_call_behind_every_other(self):
        # Without begins no call changes anything, so that each answers as if it were alone.
        alone = {
            tuple(told(0, 1, 6)): [1, -1], tuple(drop(0)): [1, -2], tuple(table()): [1, 0], tuple(steps()): [1, 0],
            tuple(empty()): [1, 0], tuple(gap()): [1, 0], tuple(enough()): [1, 1],
        }
        for first, second in itertools.product(alone, repeat=2):
            self.assertEqual(answers([*first, *second]), alone[first] + alone[second])

    def test_the_answers_are_a_list_of_whole_numbers(self):
        calls = [begins(1, 4), told(3, 0, 5), drop(0), drop(0), told(0, 1, 2), told(1, 2, 16), told(3, 2, 4)]
        found = answers(flat(calls + [table(), steps(), empty(), enough(), gap(), told(0, 1, 0), gap()]))
        self.assertIs(type(found), list)
        for number in found:
            self.assertIs(type(number), int)


class LargeNumbers(unittest.TestCase):

    def test_in_every_place(self):
        high = HIGHEST_NUMBER
        calls = [
            begins(0, 4), begins(high, high), begins(high, 1), begins(0, high), told(high, 0, 1), told(0, high, 1),
            told(0, 1, high), told(high, high, high), drop(high), told(0, 1, 2 ** 31), told(0, 1, 3), drop(high),
            table(),
        ]
        self.assertEqual(answers(flat(calls)), [
            1, 0, 1, -1, 1, -1, 1, -1, 1, -1, 1, -1, 1, -1, 1, -1, 1, -2, 1, -1, 1, 0, 1, -2, 7, 6, 3, 7, 7, 7, 7, 7,
        ])


class NothingChangedNothingKept(unittest.TestCase):

    def drawn_calls(self):
        draw = random.Random(15)
        for kind in KINDS:
            calls = [told(0, 1, 1), drop(0), table(), begins(kind, 4)]
            for _ in range(11):
                calls.append(told(*draw_statement(kind, 4, draw)))
            calls += [table(), drop(4), drop(40), steps(), gap(), begins(9, 9), told(0, 0, 0), empty(), enough()]
            yield flat(calls)
            for draw_statements in (few_relations, many_relations):
                calls = [begins(kind, 4)] + [told(*one) for one in draw_statements(kind, 4, draw)]
                yield flat(calls + [steps(), gap(), enough(), empty(), drop(0), table(), gap(), enough()])

    def test_the_list_is_unchanged(self):
        for calls in self.drawn_calls():
            before = list(calls)
            answers(calls)
            self.assertEqual(calls, before)

    def test_the_same_list_twice(self):
        for calls in self.drawn_calls():
            self.assertEqual(answers(calls), answers(calls))

    def test_other_lists_between(self):
        first = flat([told(0, 1, 1), drop(0), table()])
        alone = answers(first)
        self.assertEqual(alone, [1, -1, 1, -2, 1, 0])
        for calls in self.drawn_calls():
            expected = answers(calls)
            self.assertEqual(answers(first), alone)
            self.assertEqual(answers(calls), expected)

    def test_a_changed_answer_does_not_come_back(self):
        calls = flat([begins(2, 3), told(0, 1, 4), table()])
        found = answers(calls)
        expected = list(found)
        found[:] = [99] * len(found)
        self.assertEqual(answers(calls), expected)


if __name__ == "__main__":
    unittest.main()
