"""The errors of begins, told, drop and gap, at their edges, and that an error changes nothing (point 6)."""
import random
import unittest

from helper import (
    FULL, HIGHEST_NUMBER, KINDS, POINTS, POSITIONS, ask, begins, draw_statement, drop, empty, enough, few_relations,
    gap, many_relations, steps, table, told,
)


def last(*calls):
    return ask(*calls)[-1]


class ErrorsOfBegins(unittest.TestCase):

    def test_kinds(self):
        for kind in KINDS:
            self.assertEqual(last(begins(kind, 2)), [0])
        for kind in (4, 5, HIGHEST_NUMBER):
            self.assertEqual(last(begins(kind, 2)), [-1])

    def test_numbers_of_objects(self):
        for kind in KINDS:
            for objects in (1, 2, 3, 4):
                self.assertEqual(last(begins(kind, objects)), [0])
            for objects in (0, 5, 6, HIGHEST_NUMBER):
                self.assertEqual(last(begins(kind, objects)), [-1])

    def test_both_wrong(self):
        for objects in (0, 5, HIGHEST_NUMBER):
            self.assertEqual(last(begins(4, objects)), [-1])
            self.assertEqual(last(begins(HIGHEST_NUMBER, objects)), [-1])


class ErrorsOfTold(unittest.TestCase):

    def test_before_any_begins_there_is_no_object(self):
        self.assertEqual(last(told(0, 1, 1)), [-1])
        self.assertEqual(last(told(0, 0, 0)), [-1])

    def test_with_one_object_no_statement_can_be_made(self):
        for a, b in ((0, 0), (0, 1), (1, 0), (1, 1)):
            self.assertEqual(last(begins(POINTS, 1), told(a, b, 1)), [-1])

    def test_objects_that_there_are_not(self):
        for objects in (2, 3, 4):
            for wrong in (objects, objects + 1, HIGHEST_NUMBER):
                self.assertEqual(last(begins(POINTS, objects), told(0, wrong, 1)), [-1])
                self.assertEqual(last(begins(POINTS, objects), told(wrong, 0, 1)), [-1])
                self.assertEqual(last(begins(POINTS, objects), told(wrong, wrong, 1)), [-1])

    def test_the_highest_objects_that_there_are(self):
        for objects in (2, 3, 4):
            self.assertEqual(last(begins(POINTS, objects), told(0, objects - 1, 1)), [0])
            self.assertEqual(last(begins(POINTS, objects), told(objects - 1, objects - 2, 1)), [0])

    def test_the_same_object_twice(self):
        for same in range(4):
            self.assertEqual(last(begins(POINTS, 4), told(same, same, 2)), [-1])

    def test_the_largest_set_and_the_next_number(self):
        for kind in KINDS:
            self.assertEqual(last(begins(kind, 2), told(0, 1, FULL[kind])), [0])
            self.assertEqual(last(begins(kind, 2), told(1, 0, FULL[kind])), [0])
            for wrong in (FULL[kind] + 1, FULL[kind] + 2, 2 * FULL[kind] + 1, HIGHEST_NUMBER):
                self.assertEqual(last(begins(kind, 2), told(0, 1, wrong)), [-1])
                self.assertEqual(last(begins(kind, 2), told(1, 0, wrong)), [-1])

    def test_the_eleventh_statement(self):
        calls = [begins(POSITIONS, 4)] + [told(0, 1 + number % 3, 511) for number in range(11)]
        self.assertEqual(ask(*calls), [[0]] + [[number] for number in range(10)] + [[-7]])

    def test_after_a_drop_there_is_room_again(self):
        calls = [begins(POINTS, 2)] + [told(0, 1, 7)] * 10
        calls += [told(0, 1, 7), drop(3), told(0, 1, 7), told(0, 1, 7)]
        self.assertEqual(ask(*calls)[-4:], [[-7], [9], [9], [-7]])

    def test_the_error_listed_first_is_returned(self):
        full = [begins(POINTS, 3)] + [told(0, 1, 7)] * 10
        for wrong in (told(0, 0, 1), told(0, 3, 1), told(3, 0, 1), told(0, 1, 8), told(3, 3, 8)):
            self.assertEqual(last(*full, wrong), [-1])
        self.assertEqual(last(*full, told(0, 1, 1)), [-7])

    def test_everything_wrong_at_once(self):
        wrong = told(HIGHEST_NUMBER, HIGHEST_NUMBER, HIGHEST_NUMBER)
        self.assertEqual(last(wrong), [-1])
        self.assertEqual(last(begins(POINTS, 4), wrong), [-1])


class ErrorsOfDrop(unittest.TestCase):

    def test_without_statements(self):
        for index in (0, 1, HIGHEST_NUMBER):
            self.assertEqual(last(drop(index)), [-2])
            self.assertEqual(last(begins(POINTS, 2), drop(index)), [-2])

    def test_the_last_statement_and_the_one_behind_it(self):
        for count in range(1, 11):
            calls = [begins(POINTS, 2)] + [told(0, 1, 7)] * count
            self.assertEqual(last(*calls, drop(count - 1)), [count - 1])
            self.assertEqual(last(*calls, drop(count)), [-2])
            self.assertEqual(last(*calls, drop(HIGHEST_NUMBER)), [-2])

    def test_the_same_number_until_none_is_left(self):
        calls = [begins(POINTS, 2)] + [told(0, 1, 7)] * 3 + [drop(0)] * 4
        self.assertEqual(ask(*calls)[-4:], [[2], [1], [0], [-2]])


class ErrorOfGap(unittest.TestCase):

    def test_it_is_answered_alone(self):
        for kind in KINDS:
            for objects in (2, 3, 4):
                self.assertEqual(last(begins(kind, objects), told(0, 1, 0), gap()), [-6])

    def test_no_other_call_refuses_then(self):
        found = ask(begins(POINTS, 3), told(0, 1, 0), gap(), table(), steps(), empty(), enough(), gap())
        self.assertEqual(found[2:], [[-6], [3, 0, 0, 0], [2, 0, 2, 1, 0, 1, 2, 0, 0], [1], [1], [-6]])

    def test_not_once_they_are_consistent_again(self):
        found = ask(begins(POINTS, 2), told(0, 1, 1), told(1, 0, 1), gap(), drop(0), gap())
        self.assertEqual(found[3:], [[-6], [1], [0]])


class ErrorsChangeNothing(unittest.TestCase):

    def wrong_calls(self, kind, objects, count):
        return [
            (begins(4, 1), [-1]),
            (begins((kind + 1) % 4, 0), [-1]),
            (begins((kind + 1) % 4, 5), [-1]),
            (told(0, 0, 1), [-1]),
            (told(0, objects, 1), [-1]),
            (told(objects, 0, 1), [-1]),
            (told(0, 1, FULL[kind] + 1), [-1]),
            (drop(count), [-2]),
            (drop(HIGHEST_NUMBER), [-2]),
        ]

    def check(self, start, wrong, refusal, rest):
        without = ask(*start, *rest)
        behind = ask(*start, wrong, *rest)
        self.assertEqual(behind, without[:len(start)] + [refusal] + without[len(start):])

    def test_the_answers_and_the_numbers_stay(self):
        draw = random.Random(3)
        rest = [table(), steps(), empty(), gap(), enough(), told(1, 0, 1), drop(1), table(), gap()]
        for kind in KINDS:
            for objects in (2, 3, 4):
                for draw_statements in (few_relations, many_relations):
                    statements = draw_statements(kind, objects, draw)
                    start = [begins(kind, objects)] + [told(*statement) for statement in statements]
                    for wrong, refusal in self.wrong_calls(kind, objects, len(statements)):
                        with self.subTest(kind=kind, objects=objects, statements=statements, wrong=wrong):
                            self.check(start, wrong, refusal, rest)

    def test_the_answers_stay_after_an_eleventh_statement(self):
        draw = random.Random(29)
        rest = [table(), steps(), empty(), gap(), enough(), drop(9), table(), gap()]
        for kind in KINDS:
            for objects in (2, 3, 4):
                statements = [draw_statement(kind, objects, draw) for _ in range(10)]
                for a, b, mask in statements[:2] * 2:
                    start = [begins(kind, objects)] + [told(x, y, part | 3) for x, y, part in statements]
                    with self.subTest(kind=kind, objects=objects, statements=statements):
                        self.check(start, told(a, b, mask & 1), [-7], rest)

    def test_the_answers_stay_after_gap_refused(self):
        draw = random.Random(30)
        rest = [table(), steps(), empty(), gap(), enough(), drop(0), table()]
        for kind in KINDS:
            for objects in (2, 3, 4):
                statements = few_relations(kind, objects, draw) + [(objects - 1, 0, 0)]
                start = [begins(kind, objects)] + [told(*statement) for statement in statements]
                self.check(start, gap(), [-6], rest)

    def test_a_refused_eleventh_statement_leaves_ten(self):
        start = [begins(POINTS, 2)] + [told(0, 1, 3)] * 10
        found = ask(*start, told(0, 1, 4), table(), drop(9), told(0, 1, 6), table())
        self.assertEqual(found[-5:], [[-7], [1, 3], [9], [9], [1, 2]])

    def test_errors_before_any_begins(self):
        rest = [table(), steps(), empty(), gap(), enough()]
        found = ask(begins(4, 4), told(0, 1, 1), drop(0), begins(0, 0), begins(3, 5), *rest)
        self.assertEqual(found, [[-1], [-1], [-2], [-1], [-1], [0], [0], [0], [0], [1]])

    def test_the_kind_stays_after_a_refused_begins(self):
        found = ask(begins(1, 2), begins(0, 0), told(0, 1, 8191), told(0, 1, 8192), table())
        self.assertEqual(found, [[0], [-1], [0], [-1], [1, 8191]])


if __name__ == "__main__":
    unittest.main()
