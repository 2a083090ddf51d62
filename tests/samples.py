"""Worths to test the calls with."""

THREE = [0, 3, -1,
         2, 0, 5,
         4, -6, 0]
# 0 and 1 like each other, 2 likes all, 3 likes 2 alone.
FOUR = [0, 5, -2, 0,
        5, 0, -1, 0,
        3, 4, 0, 1,
        -3, -3, 6, 0]
# Each likes the next one, dislikes the one before, and doesn't mind the others.
FIVE = [0, 7, 0, 0, -2,
        -2, 0, 7, 0, 0,
        0, -2, 0, 7, 0,
        0, 0, -2, 0, 7,
        7, 0, 0, -2, 0]
# Each likes the next one, doesn't mind the one before, and can't stand the others.
RESTLESS = [0, 1, -3, -3, 0,
            0, 0, 1, -3, -3,
            -3, 0, 0, 1, -3,
            -3, -3, 0, 0, 1,
            1, -3, -3, 0, 0]
# Of each number of people one.
SAMPLES = ((1, [7]), (2, [0, 7, -4, 0]), (3, THREE), (4, FOUR), (5, FIVE))


def with_own(n, worth, own):
    """The same worths, but everybody is worth own to themselves."""
    return [own if place % (n + 1) == 0 else worth[place] for place in range(n * n)]


def many_worths(n, most, how_many):
    """Worths from -most to most, of all sorts, and the same ones every time."""
    found = []
    state = 1000 * n + most
    for turn in range(how_many):
        worth = []
        for place in range(n * n):
            state = (state * 1103515245 + 12345) % 2147483648
            worth.append((state >> 8) % (2 * most + 1) - most)
        found.append(worth)
    return found
