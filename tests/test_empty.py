"""Whether some set of the final table is empty: told so, or brought about by the steps alone."""
import random
import unittest

from helper import (
    FULL, INTERVALS, KINDS, POINTS, POSITIONS, SETS, ask, begins, draw_statement, drop, empty, few_relations,
    final_sets, left, pairs, told,
)


def is_empty(kind, objects, statements):
    return ask(begins(kind, objects), *[told(*statement) for statement in statements], empty())[-1]


class NotEmpty(unittest.TestCase):

    def test_before_any_begins(self):
        self.assertEqual(ask(empty()), [[0]])

    def test_without_statements(self):
        for kind in KINDS:
            for objects in (1, 2, 3, 4):
                self.assertEqual(is_empty(kind, objects, []), [0])

    def test_one_relation_of_each_pair(self):
        self.assertEqual(is_empty(POINTS, 3, [(0, 1, 1), (1, 2, 1), (0, 2, 1)]), [0])
        self.assertEqual(is_empty(INTERVALS, 3, [(0, 1, 2), (1, 2, 2), (0, 2, 1)]), [0])
        self.assertEqual(is_empty(SETS, 3, [(0, 1, 4), (1, 2, 4), (0, 2, 4)]), [0])
        self.assertEqual(is_empty(POSITIONS, 3, [(0, 1, 2), (1, 2, 8), (0, 2, 1)]), [0])


class AnEmptySetIsTold(unittest.TestCase):

    def test_for_each_pair(self):
        for kind in KINDS:
            for objects in (2, 3, 4):
                for low, high in pairs(objects):
                    self.assertEqual(is_empty(kind, objects, [(low, high, 0)]), [1])
                    self.assertEqual(is_empty(kind, objects, [(high, low, 0)]), [1])

    def test_by_two_statements_without_a_common_relation(self):
        for kind in KINDS:
            for low, high in pairs(4):
                self.assertEqual(is_empty(kind, 4, [(low, high, 1), (low, high, FULL[kind] - 1)]), [1])

    def test_no_longer_after_a_drop(self):
        for kind in KINDS:
            found = ask(begins(kind, 4), told(1, 2, 0), empty(), drop(0), empty(), told(3, 0, 0), empty())
            self.assertEqual(found, [[0], [0], [1], [0], [0], [0], [1]])


class OnlyTheStepsEmptyASet(unittest.TestCase):

    def test_a_ring_of_three(self):
        for kind, mask in ((POINTS, 1), (INTERVALS, 16), (SETS, 4), (POSITIONS, 1)):
            self.assertEqual(is_empty(kind, 3, [(0, 1, mask), (1, 2, mask)]), [0])
            self.assertEqual(is_empty(kind, 3, [(0, 1, mask), (1, 2, mask), (2, 0, mask)]), [1])

    def test_a_ring_of_four(self):
        for kind, mask in ((POINTS, 3), (INTERVALS, 3), (SETS, 12), (POSITIONS, 1 + 2 + 8)):
            ring = [(0, 1, mask), (1, 2, mask), (2, 3, mask), (3, 0, 1)]
            self.assertEqual(is_empty(kind, 4, ring[:3]), [0])
            self.assertEqual(is_empty(kind, 4, ring), [1])

    def test_drawn_requests(self):
        draw = random.Random(21)
        brought_about = dict.fromkeys(KINDS, 0)
        for kind in KINDS:
            for objects in (2, 3, 4):
                for number in range(60):
                    statements = few_relations(kind, objects, draw)
                    if number % 2:
                        statements = [draw_statement(kind, objects, draw) for _ in range(draw.randint(0, 6))]
                    expected = int(0 in final_sets(kind, objects, statements))
                    with self.subTest(kind=kind, objects=objects, statements=statements):
                        self.assertEqual(is_empty(kind, objects, statements), [expected])
                    brought_about[kind] += expected and 0 not in left(kind, objects, statements)
        for kind in KINDS:
            self.assertGreater(brought_about[kind], 5)


if __name__ == "__main__":
    unittest.main()
