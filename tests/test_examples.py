"""All examples of the document, in its order."""
import unittest

from helper import ask, begins, drop, empty, enough, gap, steps, table, told
from relationtables.service import answers

INTERVALS_IN_A_CHAIN = [
    (begins(1, 3), [0]),
    (told(0, 1, 2), [0]),
    (told(1, 2, 16), [1]),
    (table(), [3, 2, 28, 16]),
    (steps(), [1, 0, 2, 1, 28]),
    (empty(), [0]),
    (gap(), [0]),
    (enough(), [1]),
]
POINTS_IN_A_RING = [
    (begins(0, 3), [0]),
    (told(0, 1, 1), [0]),
    (told(1, 2, 3), [1]),
    (told(2, 0, 3), [2]),
    (steps(), [3, 0, 1, 2, 0, 0, 2, 1, 0, 1, 2, 0, 0]),
    (empty(), [1]),
    (enough(), [1]),
    (gap(), [-6]),
]
POINTS_WITH_A_GAP = [
    (begins(0, 4), [0]),
    (told(0, 1, 3), [0]),
    (told(0, 2, 3), [1]),
    (told(1, 2, 5), [2]),
    (told(1, 3, 3), [3]),
    (told(2, 3, 3), [4]),
    (table(), [6, 3, 3, 5, 3, 3, 3]),
    (gap(), [1, 0, 3, 2]),
    (drop(9), [-2]),
    (begins(5, 1), [-1]),
    (told(0, 1, 7), [5]),
]


class Examples(unittest.TestCase):

    def check(self, expected):
        found = ask(*[call for call, _ in expected])
        self.assertEqual(found, [answer for _, answer in expected])

    def test_intervals_in_a_chain(self):
        self.check(INTERVALS_IN_A_CHAIN)

    def test_points_in_a_ring(self):
        self.check(POINTS_IN_A_RING)

    def test_points_with_a_gap(self):
        self.check(POINTS_WITH_A_GAP)

    def test_the_whole_sequence(self):
        # The document gives it without the limits of a request.
        self.check(INTERVALS_IN_A_CHAIN + POINTS_IN_A_RING + POINTS_WITH_A_GAP)

    def test_in_the_form_of_the_interface(self):
        self.assertEqual(
            answers([0, 1, 3, 1, 0, 1, 2, 1, 1, 2, 16, 3, 4, 5, 6, 7]),
            [1, 0, 1, 0, 1, 1, 4, 3, 2, 28, 16, 5, 1, 0, 2, 1, 28, 1, 0, 1, 0, 1, 1],
        )
        self.assertEqual(
            answers([0, 0, 3, 1, 0, 1, 1, 1, 1, 2, 3, 1, 2, 0, 3, 4, 5, 7, 6]),
            [1, 0, 1, 0, 1, 1, 1, 2, 13, 3, 0, 1, 2, 0, 0, 2, 1, 0, 1, 2, 0, 0, 1, 1, 1, 1, 1, -6],
        )
        self.assertEqual(
            answers([0, 0, 4, 1, 0, 1, 3, 1, 0, 2, 3, 1, 1, 2, 5, 1, 1, 3, 3, 1, 2, 3, 3, 3, 6, 2, 9, 0, 5, 1]),
            [1, 0, 1, 0, 1, 1, 1, 2, 1, 3, 1, 4, 7, 6, 3, 3, 5, 3, 3, 3, 4, 1, 0, 3, 2, 1, -2, 1, -1],
        )

    def test_the_steps_of_the_second_example_end_in_empty_sets(self):
        found = ask(begins(0, 3), told(0, 1, 1), told(1, 2, 3), told(2, 0, 3), table())
        self.assertEqual(found[-1], [3, 0, 0, 0])


if __name__ == "__main__":
    unittest.main()
