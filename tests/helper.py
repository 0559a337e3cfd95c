"""Real objects of the four kinds, read off the document, and requests in the form of the interface.

Nothing here uses the program's own relations, inverses or compositions.
"""
import functools
import itertools
import random

from relationtables.service import answers

POINTS, INTERVALS, SETS, POSITIONS = range(4)
KINDS = (POINTS, INTERVALS, SETS, POSITIONS)
RELATION_COUNTS = {POINTS: 3, INTERVALS: 13, SETS: 5, POSITIONS: 9}
FULL = {kind: 2 ** count - 1 for kind, count in RELATION_COUNTS.items()}
HIGHEST_NUMBER = 4294967295


def begins(kind, objects):
    return [0, kind, objects]


def told(a, b, mask):
    return [1, a, b, mask]


def drop(index):
    return [2, index]


def table():
    return [3]


def steps():
    return [4]


def empty():
    return [5]


def gap():
    return [6]


def enough():
    return [7]


def ask(*calls):
    """The answers to the calls, one list for each call."""
    numbers = answers([number for call in calls for number in call])
    found = []
    position = 0
    while position < len(numbers):
        end = position + 1 + numbers[position]
        if end > len(numbers):
            raise AssertionError(f"an answer is cut off: {numbers}")
        found.append(numbers[position + 1:end])
        position = end
    return found


def final_sets(kind, objects, statements):
    """The sets of the final table after these statements (a, b, mask)."""
    calls = [begins(kind, objects)] + [told(*statement) for statement in statements] + [table()]
    answer = ask(*calls)[-1]
    if answer[0] != len(answer) - 1:
        raise AssertionError(f"the count is not that of the sets: {answer}")
    return answer[1:]


def pairs(objects):
    return sorted(itertools.combinations(range(objects), 2), key=lambda pair: (pair[1], pair[0]))


def point_relation(a, b):
    return 0 if a < b else 1 if a == b else 2


def interval_meanings(a, b):
    """For each relation of intervals whether the words of the document are true of a and b."""
    (a_start, a_end), (b_start, b_end) = a, b
    return [
        a_end < b_start,
        a_end == b_start,
        a_start < b_start and b_start < a_end and a_end < b_end,
        a_start == b_start and a_end < b_end,
        a_start > b_start and a_end < b_end,
        a_start > b_start and a_end == b_end,
        a_start == b_start and a_end == b_end,
        a_start < b_start and a_end == b_end,
        a_start < b_start and a_end > b_end,
        a_start == b_start and a_end > b_end,
        a_start > b_start and a_start < b_end and a_end > b_end,
        a_start == b_end,
        a_start > b_end,
    ]


def set_meanings(a, b):
    """For each relation of sets whether the words of the document are true of a and b."""
    return [not a & b, bool(a & b) and bool(a - b) and bool(b - a), a < b, a == b, b < a]


def relation(kind, a, b):
    """The one relation that the objects really have."""
    if kind == POINTS:
        return point_relation(a, b)
    if kind == POSITIONS:
        return 3 * point_relation(a[0], b[0]) + point_relation(a[1], b[1])
    meanings = interval_meanings(a, b) if kind == INTERVALS else set_meanings(a, b)
    if meanings.count(True) != 1:
        raise AssertionError(f"not exactly one relation: {a} {b}")
    return meanings.index(True)


def set_arrangements(count):
    # Which relations the sets have depends only on which regions of their diagram are empty.
    regions = range(1, 2 ** count)
    for filled in itertools.product((False, True), repeat=len(regions)):
        chosen = [region for region, there in zip(regions, filled) if there]
        found = tuple(frozenset(region for region in chosen if region >> place & 1) for place in range(count))
        if all(found):
            yield found


def arrangements(kind, count):
    """So many objects of the kind, in every arrangement that they can have."""
    if kind == SETS:
        return set_arrangements(count)
    if kind == POINTS:
        objects = range(count)
    elif kind == INTERVALS:
        # As many places as there are starts and ends are enough for every order of them.
        objects = list(itertools.combinations(range(2 * count), 2))
    else:
        objects = list(itertools.product(range(count), repeat=2))
    return itertools.product(objects, repeat=count)


def triples(kind):
    return arrangements(kind, 3)


def real_inverses(kind):
    found = {}
    for a, b, _ in triples(kind):
        found.setdefault(relation(kind, a, b), set()).add(relation(kind, b, a))
    if any(len(inverses) != 1 for inverses in found.values()):
        raise AssertionError(f"an inverse is not one relation: {found}")
    return {forth: inverses.pop() for forth, inverses in found.items()}


def real_compositions(kind):
    """(relation, relation) -> the set of relations as a number."""
    found = {}
    for a, b, c in triples(kind):
        key = (relation(kind, a, b), relation(kind, b, c))
        found[key] = found.get(key, 0) | 1 << relation(kind, a, c)
    return found


INVERSES = {kind: real_inverses(kind) for kind in KINDS}
COMPOSITIONS = {kind: real_compositions(kind) for kind in KINDS}


def bits(mask):
    return [place for place in range(mask.bit_length()) if mask >> place & 1]


def inverse(kind, mask):
    return sum(1 << INVERSES[kind][bit] for bit in bits(mask))


def composition(kind, first, second):
    found = 0
    for before, after in itertools.product(bits(first), bits(second)):
        found |= COMPOSITIONS[kind][before, after]
    return found


def left(kind, objects, statements):
    """The relations that are left for each pair."""
    found = dict.fromkeys(pairs(objects), FULL[kind])
    for a, b, mask in statements:
        if a < b:
            found[a, b] &= mask
        else:
            found[b, a] &= inverse(kind, mask)
    return [found[pair] for pair in pairs(objects)]


def both_ways(kind, objects, sets):
    found = {}
    for (low, high), mask in zip(pairs(objects), sets):
        found[low, high] = mask
        found[high, low] = inverse(kind, mask)
    return found


def possible_steps(kind, objects, sets):
    """Every step that is possible in the table: (pair, third, the set after it)."""
    known = both_ways(kind, objects, sets)
    found = []
    for low, high in pairs(objects):
        for third in range(objects):
            if third not in (low, high):
                kept = known[low, high] & composition(kind, known[low, third], known[third, high])
                if kept != known[low, high]:
                    found.append(((low, high), third, kept))
    return found


@functools.cache
def real_scenarios(kind, objects):
    """Every tuple of relations, one for each pair, that some real objects have."""
    known = functools.cache(functools.partial(relation, kind))
    order = pairs(objects)
    return sorted({
        tuple([known(real[low], real[high]) for low, high in order]) for real in arrangements(kind, objects)
    })


def scenarios(kind, objects, statements):
    """The scenarios of the statements, in their order: one relation for each pair."""
    found = real_scenarios(kind, objects)
    for place, allowed in enumerate(left(kind, objects, statements)):
        found = [real for real in found if allowed >> real[place] & 1]
    return found


def real_gap(kind, objects, statements, final):
    """What gap answers, if these are the sets of the final table."""
    found = scenarios(kind, objects, statements)
    if not found:
        return [-6]
    numbers = []
    for place, (low, high) in enumerate(pairs(objects)):
        missing = final[place]
        for had in {real[place] for real in found}:
            missing &= ~(1 << had)
        if missing:
            numbers += [low, high, missing]
    return [len(numbers) // 3] + numbers


def contained(small, large):
    return len(small) == len(large) and all(a & ~b == 0 for a, b in zip(small, large))


def draw_object(kind, draw):
    if kind == POINTS:
        return draw.randrange(4)
    if kind == INTERVALS:
        return tuple(sorted(draw.sample(range(8), 2)))
    if kind == POSITIONS:
        return (draw.randrange(3), draw.randrange(3))
    return frozenset(draw.sample(range(5), draw.randint(1, 5)))


def draw_mask(kind, draw):
    # Few and many relations both: sets of middling size alone seldom start a long propagation.
    chance = draw.choice((0.15, 0.4, 0.7, 0.9))
    return sum(1 << bit for bit in range(RELATION_COUNTS[kind]) if draw.random() < chance)


def draw_statement(kind, objects, draw):
    a, b = draw.sample(range(objects), 2)
    return (a, b, draw_mask(kind, draw))


def few_relations(kind, objects, draw):
    """A statement about each pair, with one to three relations."""
    count = RELATION_COUNTS[kind]
    found = []
    for a, b in pairs(objects):
        found.append((a, b, sum(1 << bit for bit in draw.sample(range(count), draw.randint(1, 3)))))
    return found


def many_relations(kind, objects, draw):
    """A statement about most pairs, with all relations but some."""
    found = []
    for a, b in pairs(objects):
        if draw.random() < 0.9:
            found.append((a, b, draw_mask(kind, draw) | draw_mask(kind, draw) | 1 << draw.randrange(3)))
    return found


def drawn_requests(seed, times):
    """Kind, number of objects and statements, with tight and with loose sets."""
    draw = random.Random(seed)
    for kind in KINDS:
        for objects in (2, 3, 4):
            for _ in range(times):
                yield kind, objects, [draw_statement(kind, objects, draw) for _ in range(draw.randint(0, 9))]
