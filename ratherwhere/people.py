"""The calls: each takes whole numbers and lists, changes none of them, and answers a list of whole numbers."""

NOT_AS_TOLD = -22
NOT_THERE = -2
MOST_PEOPLE = 5
LEAST_WORTH = -20
MOST_WORTH = 20

WELCOME = 1
LET_GO = 2


def people_are_told(n):
    """Whether n is a number of people."""
    return n >= 1 and n <= MOST_PEOPLE


def worth_is_told(n, worth):
    """Whether n is a number of people, and worth tells for each of them what each is worth."""
    if not people_are_told(n):
        return False
    if len(worth) != n * n:
        return False
    for value in worth:
        if value < LEAST_WORTH or value > MOST_WORTH:
            return False
    return True


def groups_are_told(n, groups):
    """Whether groups tells a number below n for each person."""
    if len(groups) != n:
        return False
    for number in groups:
        if number >= n:
            return False
    return True


def number_anew(groups):
    """The same groups, numbered as they first come."""
    seen = []
    numbered = []
    for number in groups:
        if number not in seen:
            seen.append(number)
        numbered.append(seen.index(number))
    return numbered


def how_many(numbered):
    """How many groups there are."""
    # Numbered as they first come, groups leave no number out.
    return max(numbered) + 1


def has_with(n, worth, numbered, i, k):
    """What those of group k are worth to person i, together, whether person i is there or not."""
    total = 0
    for j in range(n):
        # What one is worth to oneself is told, but means nothing.
        if j != i and numbered[j] == k:
            total += worth[i * n + j]
    return total


def is_welcome(n, worth, numbered, i, k):
    """Whether nobody of group k, which person i isn't in, would have less if person i came."""
    for j in range(n):
        if numbered[j] == k and worth[j * n + i] < 0:
            return False
    return True


def is_let_go(n, worth, numbered, i):
    """Whether nobody of person i's group would have less if person i left."""
    for j in range(n):
        if j != i and numbered[j] == numbered[i] and worth[j * n + i] > 0:
            return False
    return True


def would_rather_go(n, worth, numbered, i, k):
    """Whether person i would rather go to group k (or be alone, by the number behind all groups)."""
    # One's own group, and being alone when alone already, are never more than what one has.
    return has_with(n, worth, numbered, i, k) > has_with(n, worth, numbered, i, numbered[i])


def best_for(n, worth, numbered, i):
    """In which group (or alone, by the number behind all groups) person i would have most, and what they'd have."""
    where = numbered[i]
    most = has_with(n, worth, numbered, i, where)
    for k in range(how_many(numbered) + 1):
        has = has_with(n, worth, numbered, i, k)
        # Only what is more takes the place: so one's own stays if none is better, and the least of like ones.
        if has > most:
            where = k
            most = has
    return [where, most]


def may_go(n, w, worth, numbered, i, k):
    """Whether person i may go to group k (or be alone, by the number behind all groups) by way w."""
    if not would_rather_go(n, worth, numbered, i, k):
        return False
    if w >= WELCOME and not is_welcome(n, worth, numbered, i, k):
        return False
    if w >= LET_GO and not is_let_go(n, worth, numbered, i):
        return False
    return True


def find_moves(n, w, worth, numbered):
    """Each move there is by way w, as two numbers: who, and to which group."""
    found = []
    for i in range(n):
        for k in range(how_many(numbered) + 1):
            if may_go(n, w, worth, numbered, i, k):
                found.extend([i, k])
    return found


def ways_to_be(n):
    """All ways for n people to be in groups, in order by the first person whose group's number differs."""
    ways = [[0]]
    for person in range(1, n):
        longer = []
        for way in ways:
            # Up to the number behind all groups, and no further: so groups stay numbered as they first come.
            for k in range(how_many(way) + 1):
                longer.append(way + [k])
        ways = longer
    return ways


def worths(n, worth, groups):
    """How many groups; then each person's group; then what each has."""
    if not worth_is_told(n, worth):
        return [NOT_AS_TOLD]
    if not groups_are_told(n, groups):
        return [NOT_AS_TOLD]
    numbered = number_anew(groups)
    has = [has_with(n, worth, numbered, i, numbered[i]) for i in range(n)]
    return [how_many(numbered)] + numbered + has


def moves(n, w, worth, groups):
    """How many moves there are by way w; then each: who, and to which group."""
    if not worth_is_told(n, worth):
        return [NOT_AS_TOLD]
    if not groups_are_told(n, groups):
        return [NOT_AS_TOLD]
    if w > LET_GO:
        return [NOT_AS_TOLD]
    found = find_moves(n, w, worth, number_anew(groups))
    return [len(found) // 2] + found


def rests(n, w, worth):
    """In how many of all ways to be in groups they're at rest by way w; then the first of these."""
    if not worth_is_told(n, worth):
        return [NOT_AS_TOLD]
    if w > LET_GO:
        return [NOT_AS_TOLD]
    at_rest = [way for way in ways_to_be(n) if len(find_moves(n, w, worth, way)) == 0]
    if len(at_rest) == 0:
        return [0]
    return [len(at_rest)] + at_rest[0]


def go(n, i, k, worth, groups):
    """1 if person i would rather go to group k, else 0; then the groups once they went, and what they have then."""
    if not worth_is_told(n, worth):
        return [NOT_AS_TOLD]
    if not groups_are_told(n, groups):
        return [NOT_AS_TOLD]
    numbered = number_anew(groups)
    if i >= n or k > how_many(numbered):
        return [NOT_THERE]
    rather = 1 if would_rather_go(n, worth, numbered, i, k) else 0
    # Person i may have been the first of a group, or the last to leave it: so its number may no longer fit.
    went = number_anew(numbered[:i] + [k] + numbered[i + 1:])
    return [rather] + went + [has_with(n, worth, numbered, i, k)]


def best(n, i, worth, groups):
    """In which group (or alone) person i would have most; then what they'd have."""
    if not worth_is_told(n, worth):
        return [NOT_AS_TOLD]
    if not groups_are_told(n, groups):
        return [NOT_AS_TOLD]
    if i >= n:
        return [NOT_THERE]
    return best_for(n, worth, number_anew(groups), i)


def all_ways(n):
    """How many ways there are to be in groups."""
    if not people_are_told(n):
        return [NOT_AS_TOLD]
    return [len(ways_to_be(n))]
