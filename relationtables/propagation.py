"""Tables, the steps that are taken from the first one, and the final table.

A table is a list with a set of relations for each pair, in the order of the pairs.
"""

from relationtables.relations import all_relations, composition, inverse


# A step: its pair, the third object, and the set of the pair after it.
class Step:

    def __init__(self, lower, higher, third, relations):
        self.lower = lower
        self.higher = higher
        self.third = third
        self.relations = relations


def pairs(objects):
    found = []
    for higher in range(objects):
        for lower in range(higher):
            found.append((lower, higher))
    return found


# Before the pairs with this higher object stand those of all objects below it among themselves.
def pair_place(lower, higher):
    return higher * (higher - 1) // 2 + lower


def relations_between(kind, table, first, second):
    if first < second:
        return table[pair_place(first, second)]
    return inverse(kind, table[pair_place(second, first)])


def relations_left(kind, statements, lower, higher):
    left = all_relations(kind)
    for first, second, relations in statements:
        if first == lower and second == higher:
            left &= relations
        elif first == higher and second == lower:
            left &= inverse(kind, relations)
    return left


def first_table(kind, objects, statements):
    table = []
    for lower, higher in pairs(objects):
        table.append(relations_left(kind, statements, lower, higher))
    return table


def relations_kept(kind, table, lower, higher, third):
    through_third = composition(
        kind,
        relations_between(kind, table, lower, third),
        relations_between(kind, table, third, higher),
    )
    return table[pair_place(lower, higher)] & through_third


# None if no step is possible.
def first_step(kind, objects, table):
    for lower, higher in pairs(objects):
        for third in range(objects):
            if third != lower and third != higher:
                kept = relations_kept(kind, table, lower, higher, third)
                if kept != table[pair_place(lower, higher)]:
                    return Step(lower, higher, third, kept)
    return None


# This comes to an end, as each step makes one of the sets smaller.
def steps_taken(kind, objects, statements):
    table = first_table(kind, objects, statements)
    taken = []
    step = first_step(kind, objects, table)
    while step is not None:
        table[pair_place(step.lower, step.higher)] = step.relations
        taken.append(step)
        step = first_step(kind, objects, table)
    return taken


def final_table(kind, objects, statements):
    table = first_table(kind, objects, statements)
    for step in steps_taken(kind, objects, statements):
        table[pair_place(step.lower, step.higher)] = step.relations
    return table
