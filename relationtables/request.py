"""A request: the kind, the objects and the statements that its operations work on.

Each operation answers with the list of its numbers. An error is one number below 0, and is looked for before anything
is changed, so that it leaves all as it was.
"""

from relationtables.kinds import kind_exists
from relationtables.propagation import final_table
from relationtables.relations import all_relations

MOST_OBJECTS = 4
MOST_STATEMENTS = 10


class Request:

    def __init__(self):
        self.kind = 0
        self.objects = 0
        self.statements = []

    def begins(self, kind, objects):
        if not kind_exists(kind) or objects < 1 or objects > MOST_OBJECTS:
            return [-1]
        self.kind = kind
        self.objects = objects
        self.statements = []
        return [0]

    def told(self, first, second, relations):
        if not self.can_be_stated(first, second, relations):
            return [-1]
        if len(self.statements) >= MOST_STATEMENTS:
            return [-7]
        self.statements.append((first, second, relations))
        return [len(self.statements) - 1]

    def can_be_stated(self, first, second, relations):
        if first >= self.objects or second >= self.objects:
            return False
        return first != second and relations <= all_relations(self.kind)

    def drop(self, index):
        if index >= len(self.statements):
            return [-2]
        self.statements.pop(index)
        return [len(self.statements)]

    def table(self):
        final = final_table(self.kind, self.objects, self.statements)
        return [len(final)] + final
