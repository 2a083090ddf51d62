"""Wrong inputs that every call refuses that takes n, worth and groups."""

BEYOND = 4294967295


def wrong_inputs():
    """Of each: what is wrong, n, worth, groups."""
    return wrong_n() + wrong_worth() + wrong_groups() + wrong_together()


def wrong_n():
    return [
        ("n of 0, nothing told", 0, [], []),
        ("n of 0, one told", 0, [0], [0]),
        ("n of 6, 25 told", 6, [0] * 25, [0] * 6),
        ("n of 6, 27 told", 6, [0] * 27, [0] * 6),
        ("n of 2^32 - 1, nothing told", BEYOND, [], []),
        ("n of 2^32 - 1", BEYOND, [0] * 27, [0] * 7),
    ]


def wrong_worth():
    found = []
    for n in range(1, 6):
        groups = [0] * n
        found.append((f"worth empty, n {n}", n, [], groups))
        found.append((f"worth shorter by one, n {n}", n, [0] * (n * n - 1), groups))
        found.append((f"worth longer by one, n {n}", n, [0] * (n * n + 1), groups))
        found.append((f"worth of 27 numbers, n {n}", n, [0] * 27, groups))
        for place in range(n * n):
            for value in (-2147483648, -21, 21, 2147483647):
                worth = [0] * (n * n)
                worth[place] = value
                found.append((f"{value} at {place}, n {n}", n, worth, groups))
    return found


def wrong_groups():
    found = []
    for n in range(1, 6):
        worth = [0] * (n * n)
        found.append((f"groups empty, n {n}", n, worth, []))
        found.append((f"groups shorter by one, n {n}", n, worth, [0] * (n - 1)))
        found.append((f"groups longer by one, n {n}", n, worth, [0] * (n + 1)))
        found.append((f"groups of 7 numbers, n {n}", n, worth, [0] * 7))
        for place in range(n):
            for number in (n, n + 1, 6, BEYOND):
                groups = [0] * n
                groups[place] = number
                found.append((f"group {number} of person {place}, n {n}", n, worth, groups))
    return found


def wrong_together():
    return [
        ("n, worth and groups", 6, [21], [6]),
        ("n and groups", 0, [], [0]),
        ("worth and groups", 2, [0, 0, 0], [0, 2]),
        ("worth's number and groups' number", 2, [0, 21, 0, 0], [2, 0]),
        ("worth's number and groups' length", 2, [0, 0, -21, 0], [0]),
        ("worth's length and its number", 2, [0, 0, 0, 0, 21], [0, 0]),
        ("groups' length and its number", 2, [0, 0, 0, 0], [0, 0, 2]),
    ]
