"""A request: the kind, the objects and the statements that its operations work on.

Each operation answers with the list of its numbers. An error is one number below 0, and is looked for before anything
is changed, so that it leaves all as it was.
"""

from relationtables.kinds import kind_exists
from relationtables.propagation import final_table, pairs, steps_taken
from relationtables.relations import all_relations
from relationtables.scenarios import relations_in_scenarios, scenario_exists

MOST_OBJECTS = 4
MOST_STATEMENTS = 10


class Request:

    def __init__(self):
        self.kind = 0
        self.objects = 0
        self.statements = []

    def begins(self, kind, objects):
        if not kind_exists(kind) or objects < 1 or objects > MOST_OBJECTS:
            return [-1]
        self.kind = kind
        self.objects = objects
        self.statements = []
        return [0]

    def told(self, first, second, relations):
        if not self.can_be_stated(first, second, relations):
            return [-1]
        if len(self.statements) >= MOST_STATEMENTS:
            return [-7]
        self.statements.append((first, second, relations))
        return [len(self.statements) - 1]

    def can_be_stated(self, first, second, relations):
        if first >= self.objects or second >= self.objects:
            return False
        return first != second and relations <= all_relations(self.kind)

    def drop(self, index):
        if index >= len(self.statements):
            return [-2]
        self.statements.pop(index)
        return [len(self.statements)]

    def final(self):
        return final_table(self.kind, self.objects, self.statements)

    def table(self):
        final = self.final()
        return [len(final)] + final

    def steps(self):
        taken = steps_taken(self.kind, self.objects, self.statements)
        numbers = [len(taken)]
        for step in taken:
            numbers.extend([step.lower, step.higher, step.third, step.relations])
        return numbers

    def empty(self):
        return [1 if 0 in self.final() else 0]

    def gap(self):
        final = self.final()
        if not scenario_exists(self.kind, self.objects, final):
            return [-6]
        possible = relations_in_scenarios(self.kind, self.objects, final)
        gaps = 0
        numbers = []
        for pair, kept, had in zip(pairs(self.objects), final, possible):
            if kept != had:
                gaps += 1
                numbers.extend([pair[0], pair[1], kept & ~had])
        return [gaps] + numbers

    def enough(self):
        final = self.final()
        consistent = scenario_exists(self.kind, self.objects, final)
        return [1 if consistent != (0 in final) else 0]
