"""The examples of the document, as far as they use begins, told, drop and table."""
import unittest

from helper import ask, begins, drop, table, told
from relationtables.service import answers


class Examples(unittest.TestCase):

    def test_intervals_in_the_form_of_the_interface(self):
        calls = [0, 1, 3, 1, 0, 1, 2, 1, 1, 2, 16, 3]
        self.assertEqual(answers(calls), [1, 0, 1, 0, 1, 1, 4, 3, 2, 28, 16])

    def test_the_whole_sequence(self):
        expected = [
            (begins(1, 3), [0]),
            (told(0, 1, 2), [0]),
            (told(1, 2, 16), [1]),
            (table(), [3, 2, 28, 16]),
            (begins(0, 3), [0]),
            (told(0, 1, 1), [0]),
            (told(1, 2, 3), [1]),
            (told(2, 0, 3), [2]),
            (begins(0, 4), [0]),
            (told(0, 1, 3), [0]),
            (told(0, 2, 3), [1]),
            (told(1, 2, 5), [2]),
            (told(1, 3, 3), [3]),
            (told(2, 3, 3), [4]),
            (table(), [6, 3, 3, 5, 3, 3, 3]),
            (drop(9), [-2]),
            (begins(5, 1), [-1]),
            (told(0, 1, 7), [5]),
        ]
        found = ask(*[call for call, _ in expected])
        self.assertEqual(found, [answer for _, answer in expected])

    def test_the_steps_of_the_second_example_end_in_empty_sets(self):
        found = ask(begins(0, 3), told(0, 1, 1), told(1, 2, 3), told(2, 0, 3), table())
        self.assertEqual(found[-1], [3, 0, 0, 0])


if __name__ == "__main__":
    unittest.main()
