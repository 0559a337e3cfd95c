"""Points 1, 2 and 5 of the requirements, on drawn requests and, for few points, on all of them."""
import itertools
import random
import unittest

from helper import (
    FULL, KINDS, POINTS, RELATION_COUNTS, contained, draw_mask, draw_object, draw_statement, drawn_requests,
    final_sets, left, pairs, possible_steps, relation,
)


def true_statement(kind, objects, draw):
    """A drawn statement that holds for these real objects."""
    a, b = draw.sample(range(len(objects)), 2)
    return (a, b, draw_mask(kind, draw) | 1 << relation(kind, objects[a], objects[b]))


def drawn_worlds(seed, times):
    """Kind, real objects and statements that hold for them."""
    draw = random.Random(seed)
    for kind in KINDS:
        for count in (2, 3, 4):
            for _ in range(times):
                objects = [draw_object(kind, draw) for _ in range(count)]
                yield kind, objects, [true_statement(kind, objects, draw) for _ in range(draw.randint(0, 10))]


def real_table(kind, objects):
    return [1 << relation(kind, objects[low], objects[high]) for low, high in pairs(len(objects))]


class WhatHoldsStays(unittest.TestCase):
    """Point 1."""

    def test_drawn_objects(self):
        for kind, objects, statements in drawn_worlds(5, 40):
            with self.subTest(kind=kind, objects=objects, statements=statements):
                found = final_sets(kind, len(objects), statements)
                self.assertTrue(contained(real_table(kind, objects), found), found)

    def test_every_pair_told_exactly(self):
        draw = random.Random(6)
        for kind in KINDS:
            for _ in range(40):
                objects = [draw_object(kind, draw) for _ in range(4)]
                statements = [(b, a, 1 << relation(kind, objects[b], objects[a])) for a, b in pairs(4)]
                self.assertEqual(final_sets(kind, 4, statements), real_table(kind, objects))


class NoStepIsLeft(unittest.TestCase):
    """Point 2."""

    def test_drawn_requests(self):
        for kind, objects, statements in drawn_requests(7, 25):
            with self.subTest(kind=kind, objects=objects, statements=statements):
                found = final_sets(kind, objects, statements)
                self.assertEqual(possible_steps(kind, objects, found), [])
                self.assertTrue(contained(found, left(kind, objects, statements)), found)

    def test_drawn_objects(self):
        for kind, objects, statements in drawn_worlds(8, 25):
            with self.subTest(kind=kind, objects=objects, statements=statements):
                found = final_sets(kind, len(objects), statements)
                self.assertEqual(possible_steps(kind, len(objects), found), [])
                self.assertTrue(contained(found, left(kind, len(objects), statements)), found)

    def test_every_closed_table_of_three_points_is_contained(self):
        tables = list(itertools.product(range(8), repeat=3))
        closed = [sets for sets in tables if not possible_steps(POINTS, 3, sets)]
        for sets in tables:
            found = final_sets(POINTS, 3, list(zip((0, 0, 1), (1, 2, 2), sets)))
            self.assertIn(tuple(found), closed)
            for other in closed:
                if contained(other, sets):
                    self.assertTrue(contained(other, found), (sets, other, found))

    def test_steps_in_any_order_end_in_the_same_table(self):
        draw = random.Random(9)
        for kind, objects, statements in drawn_requests(10, 25):
            sets = left(kind, objects, statements)
            steps = possible_steps(kind, objects, sets)
            while steps:
                pair, _, kept = draw.choice(steps)
                sets[pairs(objects).index(pair)] = kept
                steps = possible_steps(kind, objects, sets)
            with self.subTest(kind=kind, objects=objects, statements=statements):
                self.assertEqual(final_sets(kind, objects, statements), sets)


class MoreStatements(unittest.TestCase):
    """Point 5."""

    def test_drawn_requests_one_statement_after_another(self):
        draw = random.Random(11)
        for kind, objects, statements in drawn_requests(12, 8):
            before = [FULL[kind]] * len(pairs(objects))
            for count in range(len(statements) + 1):
                found = final_sets(kind, objects, statements[:count])
                self.assertTrue(contained(found, before), (kind, objects, statements[:count]))
                before = found
            place = draw.randint(0, len(statements))
            other = statements[:place] + [draw_statement(kind, objects, draw)] + statements[place:]
            self.assertTrue(contained(final_sets(kind, objects, other), before), (kind, objects, other))

    def test_the_order_of_the_statements_does_not_matter(self):
        for kind, objects, statements in drawn_requests(13, 8):
            self.assertEqual(
                final_sets(kind, objects, statements), final_sets(kind, objects, statements[::-1]))

    def test_a_statement_that_says_nothing_changes_nothing(self):
        for kind, objects, statements in drawn_requests(14, 8):
            everything = (objects - 1, 0, 2 ** RELATION_COUNTS[kind] - 1)
            self.assertEqual(
                final_sets(kind, objects, statements), final_sets(kind, objects, statements + [everything]))


if __name__ == "__main__":
    unittest.main()
