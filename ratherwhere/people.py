"""The calls: each takes whole numbers and lists, changes none of them, and answers a list of whole numbers."""

NOT_AS_TOLD = -22
MOST_PEOPLE = 5
LEAST_WORTH = -20
MOST_WORTH = 20


def worth_is_told(n, worth):
    """Whether n is a number of people, and worth tells for each of them what each is worth."""
    if n < 1 or n > MOST_PEOPLE:
        return False
    if len(worth) != n * n:
        return False
    for value in worth:
        if value < LEAST_WORTH or value > MOST_WORTH:
            return False
    return True


def groups_are_told(n, groups):
    """Whether groups tells a number below n for each person."""
    if len(groups) != n:
        return False
    for number in groups:
        if number >= n:
            return False
    return True


def number_anew(groups):
    """The same groups, numbered as they first come."""
    seen = []
    numbered = []
    for number in groups:
        if number not in seen:
            seen.append(number)
        numbered.append(seen.index(number))
    return numbered


def how_many(numbered):
    """How many groups there are."""
    # Numbered as they first come, groups leave no number out.
    return max(numbered) + 1


def has_with(n, worth, numbered, i, k):
    """What those of group k are worth to person i, together, whether person i is there or not."""
    total = 0
    for j in range(n):
        # What one is worth to oneself is told, but means nothing.
        if j != i and numbered[j] == k:
            total += worth[i * n + j]
    return total


def worths(n, worth, groups):
    """How many groups; then each person's group; then what each has."""
    if not worth_is_told(n, worth):
        return [NOT_AS_TOLD]
    if not groups_are_told(n, groups):
        return [NOT_AS_TOLD]
    numbered = number_anew(groups)
    has = [has_with(n, worth, numbered, i, numbered[i]) for i in range(n)]
    return [how_many(numbered)] + numbered + has
