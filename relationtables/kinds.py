"""The four kinds of objects, and the relations of each of them one by one."""

POINTS = 0
INTERVALS = 1
SETS = 2

RELATION_COUNTS = (3, 13, 5, 9)

SET_INVERSES = (0, 1, 4, 3, 2)

# In the three tables below the row is the relation of the first to the second object, the column that of the second
# to the third one, and the number the set of all relations that the first object can then have to the third one.

POINT_COMPOSITIONS = (
    (1, 1, 7),
    (1, 2, 4),
    (7, 4, 4),
)

INTERVAL_COMPOSITIONS = (
    (1, 1, 1, 1, 31, 31, 1, 1, 1, 1, 31, 31, 8191),
    (1, 1, 1, 2, 28, 28, 2, 1, 1, 2, 28, 224, 7936),
    (1, 1, 7, 4, 28, 28, 4, 7, 391, 388, 2044, 1792, 7936),
    (1, 1, 7, 8, 16, 16, 8, 7, 391, 584, 1072, 2048, 4096),
    (1, 1, 31, 16, 16, 16, 16, 31, 8191, 7216, 7216, 4096, 4096),
    (1, 2, 28, 16, 16, 32, 32, 224, 7936, 7168, 7168, 4096, 4096),
    (1, 2, 4, 8, 16, 32, 64, 128, 256, 512, 1024, 2048, 4096),
    (1, 2, 4, 4, 28, 224, 128, 128, 256, 256, 1792, 1792, 7936),
    (391, 388, 388, 388, 2044, 1792, 256, 256, 256, 256, 1792, 1792, 7936),
    (391, 388, 388, 584, 1072, 1024, 512, 256, 256, 512, 1024, 2048, 4096),
    (391, 388, 2044, 1072, 1072, 1024, 1024, 1792, 7936, 7168, 7168, 4096, 4096),
    (391, 584, 1072, 1072, 1072, 2048, 2048, 2048, 4096, 4096, 4096, 4096, 4096),
    (8191, 7216, 7216, 7216, 7216, 4096, 4096, 4096, 4096, 4096, 4096, 4096, 4096),
)

SET_COMPOSITIONS = (
    (31, 7, 7, 1, 1),
    (19, 31, 6, 2, 19),
    (1, 7, 4, 4, 31),
    (1, 2, 4, 8, 16),
    (19, 18, 30, 16, 16),
)


def kind_exists(kind):
    return kind < len(RELATION_COUNTS)


def relation_count(kind):
    return RELATION_COUNTS[kind]


def inverse_relation(kind, relation):
    if kind == SETS:
        return SET_INVERSES[relation]
    # The other kinds number their relations so that the inverse stands as far from the end as the relation from 0.
    return RELATION_COUNTS[kind] - 1 - relation


# The set of all relations of A to C, where first is the relation of A to B and second that of B to C.
def relation_composition(kind, first, second):
    if kind == POINTS:
        return POINT_COMPOSITIONS[first][second]
    if kind == INTERVALS:
        return INTERVAL_COMPOSITIONS[first][second]
    if kind == SETS:
        return SET_COMPOSITIONS[first][second]
    return position_composition(first, second)


# The two coordinates do not restrict each other, so that each first one stands with each second one.
def position_composition(first, second):
    firsts = POINT_COMPOSITIONS[first // 3][second // 3]
    seconds = POINT_COMPOSITIONS[first % 3][second % 3]
    result = 0
    for relation in range(3):
        if firsts >> relation & 1:
            result |= seconds << (3 * relation)
    return result
