"""gap, enough and point 3, held against real objects gone through one by one."""
import itertools
import random
import unittest

from helper import (
    INTERVALS, KINDS, POINTS, POSITIONS, RELATION_COUNTS, SETS, ask, begins, bits, draw_statement, drop, empty, enough,
    few_relations, final_sets, gap, many_relations, pairs, real_gap, real_scenarios, scenarios, table, told,
)

# No set of the final table is empty, and still there is no scenario. Points and sets have no such statements: with
# up to four objects each of their tables in which no step is possible and no set is empty has a scenario.
NOT_FOUND_OUT = [
    (INTERVALS, [(0, 1, 544), (0, 2, 4612), (1, 2, 2305), (0, 3, 1028), (1, 3, 514), (2, 3, 2049)]),
    (INTERVALS, [(0, 1, 640), (0, 2, 1026), (1, 2, 4097), (0, 3, 40), (1, 3, 16), (2, 3, 16)]),
    (INTERVALS, [(0, 1, 130), (0, 2, 528), (1, 2, 2080), (0, 3, 258), (1, 3, 1088), (2, 3, 258)]),
    (POSITIONS, [(0, 1, 136), (0, 2, 137), (1, 2, 140), (0, 3, 10), (1, 3, 34), (2, 3, 5)]),
    (POSITIONS, [(0, 1, 40), (0, 2, 96), (1, 2, 264), (0, 3, 136), (1, 3, 80), (2, 3, 40)]),
    (POSITIONS, [(0, 1, 82), (0, 2, 145), (1, 2, 130), (0, 3, 130), (1, 3, 258), (2, 3, 132)]),
]
WITH_A_GAP = [
    (POINTS, [(0, 1, 3), (0, 2, 3), (1, 2, 5), (1, 3, 3), (2, 3, 3)], [1, 0, 3, 2]),
    (POINTS, [(0, 1, 3), (1, 2, 3), (0, 3, 3), (1, 3, 5), (2, 3, 6)], [1, 0, 2, 2]),
    (POINTS, [(0, 1, 6), (0, 2, 3), (0, 3, 5), (1, 3, 3), (2, 3, 6)], [1, 1, 2, 2]),
    (INTERVALS, [(0, 1, 3980), (0, 2, 200), (1, 2, 6497), (0, 3, 5296), (2, 3, 7641)], [1, 1, 3, 2]),
    (SETS, [(0, 1, 5), (0, 2, 20), (0, 3, 20), (1, 3, 30), (2, 3, 25)], [1, 1, 2, 1]),
    (SETS, [(0, 2, 17), (1, 2, 28), (0, 3, 11), (1, 3, 5), (2, 3, 30)], [1, 0, 1, 12]),
    (POSITIONS, [(0, 1, 129), (1, 2, 91), (0, 3, 500), (1, 3, 50), (2, 3, 78)], [1, 0, 2, 18]),
    (INTERVALS, [(0, 1, 5635), (0, 2, 1229), (1, 2, 2376), (0, 3, 3728), (1, 3, 418), (2, 3, 2244)],
     [6, 0, 1, 3, 0, 2, 141, 1, 2, 2048, 0, 3, 2048, 1, 3, 32, 2, 3, 2048]),
    (SETS, [(0, 1, 28), (0, 2, 20), (1, 2, 3), (0, 3, 14), (1, 3, 5), (2, 3, 17)],
     [4, 0, 1, 4, 0, 2, 4, 0, 3, 12, 2, 3, 16]),
    (POSITIONS, [(0, 1, 42), (0, 2, 60), (1, 2, 265), (0, 3, 481), (1, 3, 274), (2, 3, 199)],
     [6, 0, 1, 32, 0, 2, 16, 1, 2, 1, 0, 3, 192, 1, 3, 16, 2, 3, 3]),
    # The first one once more, of the first coordinates alone.
    (POSITIONS, [(0, 1, 63), (0, 2, 63), (1, 2, 455), (1, 3, 63), (2, 3, 63)], [1, 0, 3, 56]),
]


def looked_at(kind, objects, statements):
    """The answers of empty, gap and enough."""
    return ask(begins(kind, objects), *[told(*one) for one in statements], empty(), gap(), enough())[-3:]


def mixed_requests(seed, times):
    """Kind, number of objects and statements, with one object, too, and with a statement about each pair."""
    draw = random.Random(seed)
    for kind in KINDS:
        for objects in (1, 2, 3, 4):
            for _ in range(times if objects > 1 else 1):
                yield kind, objects, few_relations(kind, objects, draw)
                yield kind, objects, many_relations(kind, objects, draw)
                count = draw.randint(0, 10) if objects > 1 else 0
                yield kind, objects, [draw_statement(kind, objects, draw) for _ in range(count)]


class NoPairs(unittest.TestCase):

    def test_before_any_begins(self):
        self.assertEqual(ask(gap(), enough()), [[0], [1]])
        self.assertEqual(ask(begins(4, 1), told(0, 1, 1), gap(), enough())[-2:], [[0], [1]])

    def test_one_object(self):
        for kind in KINDS:
            self.assertEqual(looked_at(kind, 1, []), [[0], [0], [1]])


class AgainstRealObjects(unittest.TestCase):

    def test_without_statements_no_relation_is_missing(self):
        for kind in KINDS:
            for objects in (1, 2, 3, 4):
                self.assertEqual(looked_at(kind, objects, []), [[0], [0], [1]])

    def test_two_objects_every_set_of_the_small_kinds(self):
        for kind in (POINTS, SETS):
            for mask in range(2 ** RELATION_COUNTS[kind]):
                expected = [[0], [0], [1]] if mask else [[1], [-6], [1]]
                self.assertEqual(looked_at(kind, 2, [(0, 1, mask)]), expected)

    def test_every_table_of_three_points(self):
        for sets in itertools.product(range(8), repeat=3):
            statements = list(zip((0, 0, 1), (1, 2, 2), sets))
            final = final_sets(POINTS, 3, statements)
            expected = [[int(0 in final)], real_gap(POINTS, 3, statements, final), [1]]
            self.assertEqual(looked_at(POINTS, 3, statements), expected)

    def test_drawn_requests(self):
        fine, refused = dict.fromkeys(KINDS, 0), dict.fromkeys(KINDS, 0)
        for kind, objects, statements in mixed_requests(22, 40):
            final = final_sets(kind, objects, statements)
            missing = real_gap(kind, objects, statements, final)
            is_enough = int((missing == [-6]) == (0 in final))
            with self.subTest(kind=kind, objects=objects, statements=statements):
                self.assertEqual(looked_at(kind, objects, statements), [[int(0 in final)], missing, [is_enough]])
            fine[kind] += missing == [0]
            refused[kind] += missing == [-6]
        for kind in KINDS:
            self.assertGreater(fine[kind], 50)
            self.assertGreater(refused[kind], 50)

    def test_drawn_requests_with_a_gap(self):
        draw = random.Random(23)
        for kind, first, _ in WITH_A_GAP:
            for _ in range(25):
                # Some of the statements with more or fewer relations: the neighbours often have a gap as well.
                statements = [(a, b, mask ^ draw.choice((0, 0, 0, 1, 2, 4))) for a, b, mask in first]
                final = final_sets(kind, 4, statements)
                missing = real_gap(kind, 4, statements, final)
                self.assertEqual(looked_at(kind, 4, statements)[1], missing, (kind, statements))

    def test_gaps_by_hand(self):
        for kind, statements, missing in WITH_A_GAP:
            with self.subTest(kind=kind, statements=statements):
                self.assertEqual(looked_at(kind, 4, statements), [[0], missing, [1]])
                self.assertEqual(real_gap(kind, 4, statements, final_sets(kind, 4, statements)), missing)

    def test_real_objects_told_exactly(self):
        draw = random.Random(25)
        for kind in KINDS:
            for objects in (2, 3, 4):
                for real in draw.choices(real_scenarios(kind, objects), k=30):
                    statements = [(a, b, 1 << one) for (a, b), one in zip(pairs(objects), real)]
                    self.assertEqual(looked_at(kind, objects, statements), [[0], [0], [1]])

    def test_four_objects_of_which_only_two_are_spoken_of(self):
        for kind in KINDS:
            for low, high in pairs(4):
                self.assertEqual(looked_at(kind, 4, [(low, high, 5)]), [[0], [0], [1]])


class NotConsistent(unittest.TestCase):

    def test_an_empty_set(self):
        for kind in KINDS:
            for objects in (2, 3, 4):
                for low, high in pairs(objects):
                    self.assertEqual(looked_at(kind, objects, [(high, low, 0)]), [[1], [-6], [1]])

    def test_no_set_of_the_final_table_is_empty(self):
        for kind, statements in NOT_FOUND_OUT:
            with self.subTest(kind=kind, statements=statements):
                self.assertEqual(scenarios(kind, 4, statements), [])
                self.assertNotIn(0, final_sets(kind, 4, statements))
                self.assertEqual(looked_at(kind, 4, statements), [[0], [-6], [0]])

    def test_one_statement_less(self):
        for kind, statements in NOT_FOUND_OUT:
            for index in range(len(statements)):
                other = statements[:index] + statements[index + 1:]
                missing = real_gap(kind, 4, other, final_sets(kind, 4, other))
                start = [begins(kind, 4)] + [told(*one) for one in statements]
                found = ask(*start, enough(), gap(), drop(index), gap(), enough())
                self.assertEqual(found[-5:], [[0], [-6], [5], missing, [int(missing != [-6])]])

    def test_the_table_still_answers(self):
        for kind, statements in NOT_FOUND_OUT:
            found = ask(begins(kind, 4), *[told(*one) for one in statements], table(), gap(), table())
            self.assertEqual(found[-3], found[-1])
            self.assertEqual(found[-1], [6] + [mask for _, _, mask in statements])


class PointThree(unittest.TestCase):

    def test_points_are_consistent_if_no_set_is_empty(self):
        draw = random.Random(26)
        both = [0, 0]
        for objects in (1, 2, 3, 4):
            for _ in range(200):
                statements = [(a, b, draw.choice((1, 2, 3, 4, 5, 6, 7, 7))) for a, b in pairs(objects)]
                answers_of_three = looked_at(POINTS, objects, statements)
                consistent = bool(scenarios(POINTS, objects, statements))
                self.assertEqual(answers_of_three[0], [int(not consistent)], statements)
                self.assertEqual(answers_of_three[1] == [-6], not consistent, statements)
                self.assertEqual(answers_of_three[2], [1])
                both[consistent] += 1
        self.assertGreater(min(both), 50)

    def test_single_relations_that_stay_are_consistent(self):
        draw = random.Random(27)
        stayed = dict.fromkeys(KINDS, 0)
        for kind in KINDS:
            count = RELATION_COUNTS[kind]
            for _ in range(150):
                real = list(draw.choice(real_scenarios(kind, 4)))
                # One relation that is not that of the objects: some of these tables stay as they are, too.
                real[draw.randrange(6)] = draw.randrange(count)
                statements = [(a, b, 1 << one) for (a, b), one in zip(pairs(4), real)]
                final = final_sets(kind, 4, statements)
                consistent = tuple(real) in real_scenarios(kind, 4)
                self.assertEqual(all(len(bits(mask)) == 1 for mask in final), consistent, (kind, real))
                self.assertEqual(looked_at(kind, 4, statements)[1:], [[0] if consistent else [-6], [1]])
                stayed[kind] += consistent
        for kind in KINDS:
            self.assertGreater(stayed[kind], 10)

    def test_single_relations_without_a_step_have_real_objects(self):
        for kind in KINDS:
            threes = set(real_scenarios(kind, 3))
            found = []
            for (first, second, third), (same, fourth, fifth) in itertools.product(threes, repeat=2):
                if first == same:
                    for sixth in range(RELATION_COUNTS[kind]):
                        if (second, fourth, sixth) in threes and (third, fifth, sixth) in threes:
                            found.append((first, second, third, fourth, fifth, sixth))
            self.assertEqual(sorted(found), real_scenarios(kind, 4))

    def test_final_tables_of_single_relations(self):
        single = dict.fromkeys(KINDS, 0)
        for kind, objects, statements in mixed_requests(28, 40):
            final = final_sets(kind, objects, statements)
            if final and all(len(bits(mask)) == 1 for mask in final):
                single[kind] += 1
                self.assertEqual(looked_at(kind, objects, statements), [[0], [0], [1]])
        for kind in KINDS:
            self.assertGreater(single[kind], 5)


if __name__ == "__main__":
    unittest.main()
