"""The form of the interface: the lists, the large numbers, and that nothing is changed or kept."""
import itertools
import random
import unittest

from helper import HIGHEST_NUMBER, KINDS, begins, draw_statement, drop, table, told
from relationtables.service import answers


def flat(calls):
    return list(itertools.chain.from_iterable(calls))


class Lists(unittest.TestCase):

    def test_one_number_or_a_refusal(self):
        self.assertEqual(answers([0, 0, 2]), [1, 0])
        self.assertEqual(answers([0, 4, 2]), [1, -1])
        self.assertEqual(answers([1, 0, 1, 1]), [1, -1])
        self.assertEqual(answers([2, 0]), [1, -2])

    def test_tables(self):
        self.assertEqual(answers([3]), [1, 0])
        self.assertEqual(answers([0, 3, 1, 3]), [1, 0, 1, 0])
        self.assertEqual(answers([0, 3, 2, 3]), [1, 0, 2, 1, 511])
        self.assertEqual(answers([0, 2, 4, 3]), [1, 0, 7, 6, 31, 31, 31, 31, 31, 31])

    def test_the_answers_are_a_list_of_whole_numbers(self):
        found = answers(flat([begins(1, 4), told(3, 0, 5), drop(0), drop(0), table()]))
        self.assertIs(type(found), list)
        for number in found:
            self.assertIs(type(number), int)

    def test_sixty_calls(self):
        calls = [begins(1, 4)] + [told(0, 1, 8191)] * 54 + [table()] * 5
        expected = [1, 0]
        for number in range(54):
            expected += [1, number if number < 10 else -7]
        expected += [7, 6] + [8191] * 6 + ([7, 6] + [8191] * 6) * 4
        self.assertEqual(len(flat(calls)), 224)
        self.assertEqual(answers(flat(calls)), expected)


class LargeNumbers(unittest.TestCase):

    def test_in_every_place(self):
        high = HIGHEST_NUMBER
        calls = [
            begins(0, 4), begins(high, high), begins(high, 1), begins(0, high), told(high, 0, 1), told(0, high, 1),
            told(0, 1, high), told(high, high, high), drop(high), told(0, 1, 2 ** 31), told(0, 1, 3), drop(high),
            table(),
        ]
        self.assertEqual(answers(flat(calls)), [
            1, 0, 1, -1, 1, -1, 1, -1, 1, -1, 1, -1, 1, -1, 1, -1, 1, -2, 1, -1, 1, 0, 1, -2, 7, 6, 3, 7, 7, 7, 7, 7,
        ])


class NothingChangedNothingKept(unittest.TestCase):

    def drawn_calls(self):
        draw = random.Random(15)
        for kind in KINDS:
            calls = [told(0, 1, 1), drop(0), table(), begins(kind, 4)]
            for _ in range(11):
                calls.append(told(*draw_statement(kind, 4, draw)))
            calls += [table(), drop(4), drop(40), table(), begins(9, 9), told(0, 0, 0), table()]
            yield flat(calls)

    def test_the_list_is_unchanged(self):
        for calls in self.drawn_calls():
            before = list(calls)
            answers(calls)
            self.assertEqual(calls, before)

    def test_the_same_list_twice(self):
        for calls in self.drawn_calls():
            self.assertEqual(answers(calls), answers(calls))

    def test_other_lists_between(self):
        first = flat([told(0, 1, 1), drop(0), table()])
        alone = answers(first)
        self.assertEqual(alone, [1, -1, 1, -2, 1, 0])
        for calls in self.drawn_calls():
            expected = answers(calls)
            self.assertEqual(answers(first), alone)
            self.assertEqual(answers(calls), expected)

    def test_a_changed_answer_does_not_come_back(self):
        calls = flat([begins(2, 3), told(0, 1, 4), table()])
        found = answers(calls)
        expected = list(found)
        found[:] = [99] * len(found)
        self.assertEqual(answers(calls), expected)


if __name__ == "__main__":
    unittest.main()
