"""Statements, the relations that are left, and tables of every number of objects."""
import random
import unittest

from helper import (
    FULL, INTERVALS, KINDS, POINTS, POSITIONS, SETS, ask, begins, draw_mask, drop, final_sets, inverse, table, told,
)


class Tables(unittest.TestCase):

    def test_before_any_begins(self):
        self.assertEqual(ask(table()), [[0]])

    def test_without_statements_every_relation_is_left(self):
        for kind in KINDS:
            for objects, count in ((1, 0), (2, 1), (3, 3), (4, 6)):
                self.assertEqual(ask(begins(kind, objects), table()), [[0], [count] + [FULL[kind]] * count])

    def test_the_order_of_the_pairs(self):
        # Over the full set nothing follows from one statement, so that its set shows at its pair alone.
        order = [(0, 1), (0, 2), (1, 2), (0, 3), (1, 3), (2, 3)]
        for place, (low, high) in enumerate(order):
            expected = [7] * 6
            expected[place] = 5
            self.assertEqual(final_sets(POINTS, 4, [(low, high, 5)]), expected)

    def test_a_chain_of_four_objects(self):
        self.assertEqual(final_sets(POINTS, 4, [(0, 1, 1), (1, 2, 2), (2, 3, 1)]), [1, 1, 2, 1, 1, 1])
        self.assertEqual(final_sets(INTERVALS, 4, [(0, 1, 4), (1, 2, 4), (2, 3, 1)]), [4, 7, 4, 1, 1, 1])
        self.assertEqual(final_sets(SETS, 4, [(0, 1, 4), (1, 2, 4), (2, 3, 1)]), [4, 4, 4, 1, 1, 1])
        self.assertEqual(final_sets(POSITIONS, 4, [(0, 1, 1), (1, 2, 2), (2, 3, 64)]), [1, 1, 2, 73, 73, 64])

    def test_several_steps_build_on_each_other(self):
        # Less than or equal all around a ring leaves only equality, which no single step finds.
        ring = [(0, 1, 3), (1, 2, 3), (2, 3, 3), (3, 0, 3)]
        self.assertEqual(final_sets(POINTS, 4, ring), [2] * 6)

    def test_a_table_that_keeps_impossible_relations(self):
        statements = [(0, 1, 3), (0, 2, 3), (1, 2, 5), (1, 3, 3), (2, 3, 3)]
        self.assertEqual(final_sets(POINTS, 4, statements), [3, 3, 5, 3, 3, 3])

    def test_asked_twice_the_table_is_the_same(self):
        found = ask(begins(1, 3), told(0, 1, 2), told(1, 2, 16), table(), table())
        self.assertEqual(found[-1], found[-2])


class Statements(unittest.TestCase):

    def test_numbers_from_0(self):
        found = ask(begins(POINTS, 3), told(0, 1, 1), told(1, 2, 0), told(2, 0, 7))
        self.assertEqual(found, [[0], [0], [1], [2]])

    def test_the_higher_object_first(self):
        self.assertEqual(final_sets(POINTS, 2, [(1, 0, 1)]), [4])
        self.assertEqual(final_sets(INTERVALS, 2, [(1, 0, 1 + 8 + 64)]), [4096 + 512 + 64])
        self.assertEqual(final_sets(SETS, 2, [(1, 0, 1 + 4)]), [1 + 16])
        self.assertEqual(final_sets(SETS, 2, [(1, 0, 2 + 8)]), [2 + 8])
        self.assertEqual(final_sets(POSITIONS, 2, [(1, 0, 4)]), [64])

    def test_several_statements_about_one_pair(self):
        draw = random.Random(4)
        for kind in KINDS:
            for _ in range(30):
                first, second, third = [draw_mask(kind, draw) for _ in range(3)]
                found = final_sets(kind, 2, [(0, 1, first), (1, 0, second), (0, 1, third)])
                self.assertEqual(found, [first & inverse(kind, second) & third])

    def test_an_empty_set_stays_with_two_objects(self):
        for kind in KINDS:
            self.assertEqual(final_sets(kind, 2, [(0, 1, 0)]), [0])
            self.assertEqual(final_sets(kind, 2, [(1, 0, 0)]), [0])
            self.assertEqual(final_sets(kind, 2, [(0, 1, 1), (0, 1, 2)]), [0])

    def test_an_empty_set_empties_every_pair(self):
        for kind in KINDS:
            self.assertEqual(final_sets(kind, 3, [(2, 1, 0)]), [0] * 3)
            self.assertEqual(final_sets(kind, 4, [(0, 1, 0)]), [0] * 6)
            self.assertEqual(final_sets(kind, 4, [(3, 2, 0)]), [0] * 6)

    def test_statements_about_one_pair_leave_the_others(self):
        self.assertEqual(final_sets(POINTS, 4, [(3, 2, 1)]), [7, 7, 7, 7, 7, 4])


class Drops(unittest.TestCase):

    def test_in_the_middle(self):
        start = [begins(POINTS, 4), told(0, 1, 1), told(1, 2, 2), told(2, 3, 4)]
        found = ask(*start, drop(1), table())
        self.assertEqual(found[-2:], [[2], [6, 1, 7, 7, 7, 7, 4]])

    def test_the_numbers_behind_decrease(self):
        start = [begins(POINTS, 4), told(0, 1, 1), told(1, 2, 2), told(2, 3, 4)]
        found = ask(*start, drop(0), drop(0), table(), drop(0), drop(0), table())
        self.assertEqual(found[-6:], [[2], [1], [6, 7, 7, 7, 7, 7, 4], [0], [-2], [6, 7, 7, 7, 7, 7, 7]])

    def test_the_next_statement_gets_the_number_that_is_free(self):
        start = [begins(POINTS, 2), told(0, 1, 3), told(0, 1, 6), told(0, 1, 7)]
        found = ask(*start, drop(0), told(0, 1, 5), drop(2), table())
        self.assertEqual(found[-4:], [[2], [2], [2], [1, 6]])

    def test_what_a_statement_removed_comes_back(self):
        start = [begins(INTERVALS, 3), told(0, 1, 2), told(1, 2, 0)]
        found = ask(*start, table(), drop(1), table(), told(1, 2, 16), table())
        self.assertEqual(found[3:], [[3, 0, 0, 0], [1], [3, 2, 8191, 8191], [1], [3, 2, 28, 16]])


class BeginningAgain(unittest.TestCase):

    def test_statements_are_removed(self):
        found = ask(begins(POINTS, 3), told(0, 1, 1), begins(POINTS, 3), drop(0), table(), told(1, 2, 2), table())
        self.assertEqual(found[2:], [[0], [-2], [3, 7, 7, 7], [0], [3, 7, 7, 2]])

    def test_kind_and_objects_are_new(self):
        found = ask(
            begins(INTERVALS, 4), told(3, 2, 4096), begins(SETS, 2), told(0, 2, 1), told(0, 1, 32), told(0, 1, 31),
            table(), begins(POSITIONS, 3), table(), begins(POINTS, 1), table(),
        )
        self.assertEqual(found, [
            [0], [0], [0], [-1], [-1], [0], [1, 31], [0], [3, 511, 511, 511], [0], [0],
        ])

    def test_room_for_ten_again(self):
        once = [begins(POINTS, 2)] + [told(1, 0, 7)] * 11
        numbers = [[0]] + [[number] for number in range(10)] + [[-7]]
        self.assertEqual(ask(*once, *once), numbers + numbers)


if __name__ == "__main__":
    unittest.main()
