"""Requests that are as long as a request may be, and how long they take."""
import itertools
import random
import time
import unittest

from helper import (
    FULL, INTERVALS, KINDS, POSITIONS, begins, draw_statement, drop, empty, enough, few_relations, gap, many_relations,
    steps, table, told,
)
from relationtables.service import answers

# In seconds, and far above what is needed: a slow machine is not to fail.
LONGEST = 4
LOOKS = [
    [table(), steps(), empty(), enough(), enough(), gap(), gap()],
    [steps()] * 5 + [gap()] * 2,
    [enough()] * 5 + [gap()] * 2,
]


class Limits(unittest.TestCase):

    def answered(self, calls):
        """The answers, within the time, and as many as there are calls."""
        numbers = list(itertools.chain.from_iterable(calls))
        self.assertLessEqual(len(calls), 60)
        self.assertLessEqual(len(numbers), 240)
        started = time.monotonic()
        found = answers(numbers)
        self.assertLess(time.monotonic() - started, LONGEST, calls)
        count = position = 0
        while position < len(found):
            position += 1 + found[position]
            count += 1
        self.assertEqual((count, position), (len(calls), len(found)))
        return found

    def test_few_and_many_relations(self):
        draw = random.Random(31)
        for kind in KINDS:
            for draw_statements in (few_relations, many_relations):
                for looks in LOOKS * 3:
                    told_each = [told(*one) for one in draw_statements(kind, 4, draw)]
                    self.answered([begins(kind, 4)] + told_each + looks)

    def test_no_statement_at_all(self):
        for kind in KINDS:
            for looks in LOOKS:
                found = self.answered([begins(kind, 4)] + looks)
                self.assertEqual(found[-2:], [1, 0])

    def test_ten_statements(self):
        draw = random.Random(32)
        for kind in KINDS:
            for looks in LOOKS:
                told_each = [told(*draw_statement(kind, 4, draw)) for _ in range(10)]
                self.answered([begins(kind, 4)] + told_each + looks)
                nearly_all = [told(a, b, FULL[kind] - (mask & -mask)) for _, a, b, mask in told_each]
                self.answered([begins(kind, 4)] + nearly_all + looks)

    def test_long_searches_for_a_scenario(self):
        statements = {
            INTERVALS: [(0, 1, 3664), (0, 2, 2115), (1, 2, 4634), (0, 3, 437), (1, 3, 5000), (2, 3, 1746)],
            POSITIONS: [(0, 1, 136), (0, 2, 137), (1, 2, 140), (0, 3, 10), (1, 3, 34), (2, 3, 5)],
        }
        for kind, each in statements.items():
            self.answered([begins(kind, 4)] + [told(*one) for one in each] + LOOKS[2])

    def test_sixty_calls_of_one_table(self):
        calls = [begins(1, 4)] + [told(0, 1, 8191)] * 54 + [table()] * 5
        expected = [1, 0]
        for number in range(54):
            expected += [1, number if number < 10 else -7]
        expected += ([7, 6] + [8191] * 6) * 5
        self.assertEqual(len(calls), 60)
        self.assertEqual(self.answered(calls), expected)

    def test_sixty_calls_with_all_that_a_request_may_ask(self):
        draw = random.Random(33)
        for kind in KINDS:
            drops = [drop(draw.randrange(3)) for _ in range(20)]
            tells = [told(*one) for _ in range(6) for one in many_relations(kind, 4, draw)][:30]
            calls = tells + drops
            draw.shuffle(calls)
            asked = LOOKS[0]
            calls = [begins(kind, 4)] + calls[:45]
            for number, look in enumerate(asked):
                calls.insert(6 * (number + 1), look)
            calls += [drop(0)] * (60 - len(calls))
            self.assertEqual(len(calls), 60)
            self.answered(calls)


if __name__ == "__main__":
    unittest.main()
