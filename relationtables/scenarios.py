"""Whether a table has a scenario, and which relations its pairs have in scenarios.

Up to four objects of a kind can have given relations if each three of them can. So the pairs are given a single
relation, one pair after another, as long as each three objects up to there agree. No step takes anything from a
scenario, so that the final table has the same ones as the relations that are left.
"""

from relationtables.propagation import pairs, relations_kept
from relationtables.relations import members


def scenario_exists(kind, objects, table):
    return can_be_completed(kind, objects, table, [])


# The beginning is a table with a single relation for each of the first pairs.
def can_be_completed(kind, objects, table, beginning):
    place = len(beginning)
    if place == len(table):
        return True
    pair = pairs(objects)[place]
    agreeing = relations_agreeing(kind, beginning + [table[place]], pair[0], pair[1])
    for relation in members(kind, agreeing):
        if can_be_completed(kind, objects, table, beginning + [1 << relation]):
            return True
    return False


# The pair is the last one in the table. Only with the objects below its lower one are both other pairs there already.
def relations_agreeing(kind, table, lower, higher):
    agreeing = table[-1]
    for third in range(lower):
        agreeing &= relations_kept(kind, table, lower, higher, third)
    return agreeing


def relations_in_scenarios(kind, objects, table):
    found = []
    for place in range(len(table)):
        found.append(pair_in_scenarios(kind, objects, table, place))
    return found


def pair_in_scenarios(kind, objects, table, place):
    found = 0
    for relation in members(kind, table[place]):
        single = 1 << relation
        if scenario_exists(kind, objects, table[:place] + [single] + table[place + 1:]):
            found |= single
    return found
