"""Relations, inverses and compositions, held against objects that really have these relations."""
import itertools
import random
import unittest

from helper import (
    COMPOSITIONS, FULL, INTERVALS, INVERSES, KINDS, POINTS, POSITIONS, RELATION_COUNTS, SETS,
    composition, final_sets, inverse, relation, triples,
)


class RealObjects(unittest.TestCase):
    """The yardstick itself: a fault here would hide one of the program."""

    def test_every_relation_is_had_by_some_objects(self):
        for kind in KINDS:
            self.assertEqual(sorted(INVERSES[kind]), list(range(RELATION_COUNTS[kind])))
            self.assertEqual(len(COMPOSITIONS[kind]), RELATION_COUNTS[kind] ** 2)

    def test_some_relations_by_hand(self):
        self.assertEqual(relation(POINTS, 4, 9), 0)
        self.assertEqual(relation(INTERVALS, (0, 2), (2, 3)), 1)
        self.assertEqual(relation(INTERVALS, (1, 2), (0, 3)), 4)
        self.assertEqual(relation(INTERVALS, (1, 4), (0, 3)), 10)
        self.assertEqual(relation(SETS, frozenset((1,)), frozenset((1, 2))), 2)
        self.assertEqual(relation(SETS, frozenset((1, 2)), frozenset((2, 3))), 1)
        self.assertEqual(relation(POSITIONS, (1, 5), (2, 3)), 2)
        self.assertEqual(relation(POSITIONS, (1, 3), (0, 3)), 7)


class Inverses(unittest.TestCase):

    def test_each_relation_told_from_the_other_side(self):
        for kind in KINDS:
            for one in range(RELATION_COUNTS[kind]):
                with self.subTest(kind=kind, relation=one):
                    self.assertEqual(final_sets(kind, 2, [(1, 0, 1 << one)]), [1 << INVERSES[kind][one]])

    def test_drawn_sets_told_from_the_other_side(self):
        draw = random.Random(1)
        for kind in KINDS:
            for mask in [0, FULL[kind]] + [draw.randint(0, FULL[kind]) for _ in range(60)]:
                with self.subTest(kind=kind, mask=mask):
                    self.assertEqual(final_sets(kind, 2, [(1, 0, mask)]), [inverse(kind, mask)])

    def test_real_objects_told_from_the_other_side(self):
        for kind in KINDS:
            for a, b, _ in itertools.islice(triples(kind), 0, None, 7):
                told_back = 1 << relation(kind, b, a)
                self.assertEqual(final_sets(kind, 2, [(1, 0, told_back)]), [1 << relation(kind, a, b)])


class Compositions(unittest.TestCase):

    def test_each_two_relations(self):
        for kind in KINDS:
            for (before, after), expected in COMPOSITIONS[kind].items():
                with self.subTest(kind=kind, before=before, after=after):
                    found = final_sets(kind, 3, [(0, 1, 1 << before), (1, 2, 1 << after)])
                    self.assertEqual(found, [1 << before, expected, 1 << after])

    def test_each_two_relations_around_the_lowest_object(self):
        for kind in KINDS:
            for (before, after), expected in COMPOSITIONS[kind].items():
                with self.subTest(kind=kind, before=before, after=after):
                    found = final_sets(kind, 3, [(1, 0, 1 << before), (0, 2, 1 << after)])
                    self.assertEqual(found, [1 << INVERSES[kind][before], 1 << after, expected])

    def test_each_two_relations_around_the_highest_object(self):
        for kind in KINDS:
            for (before, after), expected in COMPOSITIONS[kind].items():
                with self.subTest(kind=kind, before=before, after=after):
                    found = final_sets(kind, 3, [(0, 2, 1 << before), (2, 1, 1 << after)])
                    self.assertEqual(found, [expected, 1 << before, 1 << INVERSES[kind][after]])

    def test_drawn_sets_of_relations(self):
        draw = random.Random(2)
        for kind in KINDS:
            for _ in range(80):
                first, second = draw.randint(1, FULL[kind]), draw.randint(1, FULL[kind])
                with self.subTest(kind=kind, first=first, second=second):
                    found = final_sets(kind, 3, [(0, 1, first), (1, 2, second)])
                    self.assertEqual(found, [first, composition(kind, first, second), second])

    def test_every_two_sets_of_relations_of_the_small_kinds(self):
        for kind in (POINTS, SETS):
            for first, second in itertools.product(range(1, FULL[kind] + 1), repeat=2):
                found = final_sets(kind, 3, [(0, 1, first), (1, 2, second)])
                self.assertEqual(found, [first, composition(kind, first, second), second])


if __name__ == "__main__":
    unittest.main()
