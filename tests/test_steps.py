"""Which step is taken first, and what it leaves of the set of its pair."""
import random
import unittest

from helper import KINDS, draw_mask, pairs, possible_steps
from relationtables.propagation import first_step


class FirstStep(unittest.TestCase):

    def test_drawn_tables(self):
        draw = random.Random(16)
        taken = 0
        for kind in KINDS:
            for objects in (0, 1, 2, 3, 4):
                for _ in range(40):
                    sets = [draw_mask(kind, draw) for _ in pairs(objects)]
                    step = first_step(kind, objects, list(sets))
                    expected = possible_steps(kind, objects, sets)
                    with self.subTest(kind=kind, objects=objects, sets=sets):
                        if expected:
                            taken += 1
                            found = ((step.lower, step.higher), step.third, step.relations)
                            self.assertEqual(found, expected[0])
                        else:
                            self.assertIsNone(step)
        self.assertGreater(taken, 100)


if __name__ == "__main__":
    unittest.main()
