"""The document's words reckoned a second time, step by step, to test the calls against."""

import itertools

WAYS = (0, 1, 2)
# Of n people how many ways there are to be in groups: Bell's numbers.
HOW_MANY_WAYS = {1: 1, 2: 2, 3: 5, 4: 15, 5: 52}


def as_first_come(told):
    """The same groups, numbered as they first come."""
    first_come = list(dict.fromkeys(told))
    return [first_come.index(number) for number in told]


def went(groups, i, k):
    """The groups once person i went to group k, by numbers that need not be as they first come."""
    return groups[:i] + [k] + groups[i + 1:]


def has_each(n, worth, groups):
    return [sum(worth[i * n + j] for j in range(n) if j != i and groups[j] == groups[i]) for i in range(n)]


def moves_by_meaning(n, w, worth, told):
    """By comparing what everybody has before and after each move."""
    groups = as_first_come(told)
    before = has_each(n, worth, groups)
    found = []
    for i, k in itertools.product(range(n), range(len(set(told)) + 1)):
        after = has_each(n, worth, went(groups, i, k))
        there = [j for j in range(n) if j != i and groups[j] == k]
        left = [j for j in range(n) if j != i and groups[j] == groups[i]]
        welcome = all(after[j] >= before[j] for j in there)
        let_go = all(after[j] >= before[j] for j in left)
        if k != groups[i] and after[i] > before[i] and (w < 1 or welcome) and (w < 2 or let_go):
            found.append((i, k))
    return [len(found)] + [number for move in found for number in move]


def ways_by_meaning(n):
    """All ways to be in groups, out of everything that may be told of n people, each once and in order."""
    told = itertools.product(range(n), repeat=n)
    return [list(way) for way in sorted(set(tuple(as_first_come(groups)) for groups in told))]


def rests_by_meaning(n, w, worth):
    at_rest = [way for way in ways_by_meaning(n) if moves_by_meaning(n, w, worth, way) == [0]]
    return [len(at_rest)] + (at_rest[0] if at_rest else [])


def go_by_meaning(n, i, k, worth, told):
    groups = as_first_come(told)
    gone = went(groups, i, k)
    before = has_each(n, worth, groups)[i]
    after = has_each(n, worth, gone)[i]
    return [1 if after > before else 0] + as_first_come(gone) + [after]


def best_by_meaning(n, i, worth, told):
    """By what person i has once they went to each group, and alone."""
    groups = as_first_come(told)
    there = [has_each(n, worth, went(groups, i, k))[i] for k in range(len(set(told)) + 1)]
    own = groups[i]
    return [own if there[own] == max(there) else there.index(max(there)), max(there)]
