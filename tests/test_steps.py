"""Point 4: which steps are taken, what each leaves of the set of its pair, and where all of them lead."""
import random
import unittest

from helper import (
    INTERVALS, KINDS, POINTS, POSITIONS, SETS, ask, begins, draw_mask, drawn_requests, drop, final_sets, left, pairs,
    possible_steps, steps, table, told,
)
from relationtables.propagation import first_step


def reported(kind, objects, statements):
    """The steps as tuples: lower object, higher object, third object, set after the step."""
    answer = ask(begins(kind, objects), *[told(*statement) for statement in statements], steps())[-1]
    if len(answer) != 1 + 4 * answer[0]:
        raise AssertionError(f"the count is not that of the steps: {answer}")
    return [tuple(answer[start:start + 4]) for start in range(1, len(answer), 4)]


class FirstStep(unittest.TestCase):

    def test_drawn_tables(self):
        draw = random.Random(16)
        taken = 0
        for kind in KINDS:
            for objects in (0, 1, 2, 3, 4):
                for _ in range(40):
                    sets = [draw_mask(kind, draw) for _ in pairs(objects)]
                    step = first_step(kind, objects, list(sets))
                    expected = possible_steps(kind, objects, sets)
                    with self.subTest(kind=kind, objects=objects, sets=sets):
                        if expected:
                            taken += 1
                            found = ((step.lower, step.higher), step.third, step.relations)
                            self.assertEqual(found, expected[0])
                        else:
                            self.assertIsNone(step)
        self.assertGreater(taken, 100)


class NoStep(unittest.TestCase):

    def test_before_any_begins(self):
        self.assertEqual(ask(steps()), [[0]])

    def test_without_statements(self):
        for kind in KINDS:
            for objects in (1, 2, 3, 4):
                self.assertEqual(ask(begins(kind, objects), steps()), [[0], [0]])

    def test_two_objects_have_no_third_one(self):
        for kind in KINDS:
            for mask in (0, 1, 3, 7):
                self.assertEqual(reported(kind, 2, [(0, 1, mask), (1, 0, mask)]), [])

    def test_nothing_follows_from_one_pair(self):
        for kind in KINDS:
            self.assertEqual(reported(kind, 4, [(0, 1, 2)]), [])

    def test_all_sets_empty_from_the_start(self):
        self.assertEqual(reported(POINTS, 3, [(0, 1, 0), (0, 2, 0), (1, 2, 0)]), [])

    def test_what_follows_is_told(self):
        self.assertEqual(reported(INTERVALS, 3, [(0, 1, 2), (1, 2, 16), (0, 2, 28)]), [])


class StepsByHand(unittest.TestCase):

    def test_one_step_at_each_pair(self):
        self.assertEqual(reported(POINTS, 3, [(0, 2, 1), (2, 1, 2)]), [(0, 1, 2, 1)])
        self.assertEqual(reported(POINTS, 3, [(0, 1, 1), (1, 2, 2)]), [(0, 2, 1, 1)])
        self.assertEqual(reported(POINTS, 3, [(1, 0, 1), (0, 2, 2)]), [(1, 2, 0, 1)])
        self.assertEqual(reported(POSITIONS, 3, [(1, 0, 1), (0, 2, 2)]), [(1, 2, 0, 1)])

    def test_an_empty_set_spreads_pair_by_pair(self):
        self.assertEqual(reported(SETS, 3, [(1, 2, 0)]), [(0, 1, 2, 0), (0, 2, 1, 0)])
        self.assertEqual(reported(POINTS, 4, [(2, 3, 0)]), [
            (0, 2, 3, 0), (0, 1, 2, 0), (1, 2, 0, 0), (0, 3, 1, 0), (1, 3, 0, 0),
        ])

    def test_the_lowest_third_object(self):
        # Both the objects 2 and 3 would make the first pair smaller; after 2 nothing is left to do for 3.
        statements = [(0, 2, 1), (2, 1, 2), (0, 3, 1), (3, 1, 2)]
        self.assertEqual(reported(POINTS, 4, statements)[0], (0, 1, 2, 1))

    def test_one_pair_twice(self):
        statements = [(0, 2, 3), (2, 1, 3), (0, 3, 5), (3, 1, 2)]
        self.assertEqual(reported(POINTS, 4, statements)[:2], [(0, 1, 2, 3), (0, 1, 3, 1)])


class StepsOfDrawnRequests(unittest.TestCase):

    def test_each_step_is_the_first_one_that_is_possible(self):
        taken = dict.fromkeys(KINDS, 0)
        for kind, objects, statements in drawn_requests(17, 30):
            with self.subTest(kind=kind, objects=objects, statements=statements):
                sets = left(kind, objects, statements)
                for low, high, third, after in reported(kind, objects, statements):
                    place = pairs(objects).index((low, high))
                    self.assertEqual(possible_steps(kind, objects, sets)[0], ((low, high), third, after))
                    self.assertNotEqual(after, sets[place])
                    self.assertEqual(after & ~sets[place], 0)
                    sets[place] = after
                    taken[kind] += 1
                self.assertEqual(possible_steps(kind, objects, sets), [])
        for kind in KINDS:
            self.assertGreater(taken[kind], 50)

    def test_they_lead_from_the_relations_that_are_left_to_the_table(self):
        for kind, objects, statements in drawn_requests(18, 30):
            with self.subTest(kind=kind, objects=objects, statements=statements):
                sets = dict(zip(pairs(objects), left(kind, objects, statements)))
                for low, high, _, after in reported(kind, objects, statements):
                    sets[low, high] = after
                self.assertEqual(list(sets.values()), final_sets(kind, objects, statements))

    def test_asked_twice_the_steps_are_the_same(self):
        for kind, objects, statements in drawn_requests(19, 5):
            start = [begins(kind, objects)] + [told(*statement) for statement in statements]
            found = ask(*start, steps(), table(), steps(), table())
            self.assertEqual(found[-4:-2], found[-2:])

    def test_after_a_drop_they_are_those_of_the_other_statements(self):
        for kind, objects, statements in drawn_requests(20, 5):
            for index in range(len(statements)):
                calls = [begins(kind, objects)] + [told(*statement) for statement in statements]
                found = ask(*calls, steps(), drop(index), steps())[-1]
                other = statements[:index] + statements[index + 1:]
                self.assertEqual(found, ask(begins(kind, objects), *[told(*one) for one in other], steps())[-1])


if __name__ == "__main__":
    unittest.main()
