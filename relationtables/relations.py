"""Sets of relations as numbers: bit r stands for relation r."""

from relationtables.kinds import inverse_relation, relation_composition, relation_count


def all_relations(kind):
    return (1 << relation_count(kind)) - 1


def members(kind, relations):
    return [relation for relation in range(relation_count(kind)) if relations >> relation & 1]


def inverse(kind, relations):
    result = 0
    for relation in members(kind, relations):
        result |= 1 << inverse_relation(kind, relation)
    return result


def composition(kind, first, second):
    seconds = members(kind, second)
    result = 0
    for before in members(kind, first):
        for behind in seconds:
            result |= relation_composition(kind, before, behind)
    return result
