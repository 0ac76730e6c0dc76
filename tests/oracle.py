"""Plain ways to tilt and to search, over tuples of rows, against which the package is tested."""

import itertools

ENDLESS = []
ENDLESS.append(ENDLESS)

NOT_STRINGS = (None, True, False, 0, 1, -1, 10 ** 30, 1.5, (), ("a",), [], ["a"], b"a", {"a": 1}, ENDLESS)
NOT_MARBLES = NOT_STRINGS + ("", ".", "ab", "A", "\n", "\u0430")
NOT_TILTS = NOT_STRINGS + ("", "lu", "lr", "L", "x", "a", ".", "l ", "\n", ("l",), ["l"])
NOT_NUMBERS = (None, True, False, 1.0, -1, -10 ** 30, "", "1", "a", (), (1,), [], [1], {}, ENDLESS)
NOT_PLACES = NOT_STRINGS + (
    "00", (0,), (0, 0, 0), [0, 0], ("0", "0"), (0, None), (None, 0), (False, 0), (0, True), (True, True),
    (0, 0.0), ((0, 0), 0), ([0], [0]), (-1, 0), (0, -1), (8, 0), (0, 8), (10 ** 30, 0), (0, 10 ** 30),
)
ROWS = (
    ("a",), (".",), ("...", "..."), ("..a.b",), (".", "a", ".", "b"), ("ab", "c."), (".a", "b."), ("ab", "cd"),
    ("a.b", ".c.", "d.."), ("ab.", "c..", "d.."), ("z..", "..m", ".a."), ("abc", "de."), ("a..b", "....", ".c.d"),
    (".ab", "c.d", "ef."), ("abcde", "fgh.."),
)


def tilted(rows, tilt):
    """Pull the marbles of each line to its beginning, after turning the tray so that this is meant."""
    if tilt in "ud":
        columns = tuple("".join(column) for column in zip(*rows))
        return tuple("".join(row) for row in zip(*tilted(columns, "l" if tilt == "u" else "r")))
    order = {"l": lambda cell: cell == ".", "r": lambda cell: cell != "."}
    return tuple("".join(sorted(row, key=order[tilt])) for row in rows)


def after(rows, text):
    for tilt in text:
        rows = tilted(rows, tilt)
    return rows


def places(rows):
    """Return a dict from all marbles to their places."""
    return {
        cell: (row, column)
        for row, cells in enumerate(rows)
        for column, cell in enumerate(cells)
        if cell != "."
    }


def rounds_until_repeated(rows, text):
    """Return the list of the rows after 0, 1, .. rounds, until those after the first one come again."""
    found = [rows, after(rows, text)]
    while True:
        following = after(found[-1], text)
        if following == found[1]:
            return found
        found.append(following)


def rows_after(rows, text, times):
    found = rounds_until_repeated(rows, text)
    return found[0] if times == 0 else found[1 + (times - 1) % (len(found) - 1)]


def shortest_ways(rows):
    """Return a dict from all rows that can be reached to the first of the shortest strings of tilts."""
    ways = {rows: ""}
    level = [rows]
    while level:
        following = []
        for reached, tilt in itertools.product(level, "dlru"):
            further = tilted(reached, tilt)
            if further not in ways:
                ways[further] = ways[reached] + tilt
                following.append(further)
        level = sorted(following, key=ways.get)
    return ways


def texts(most):
    for length in range(most + 1):
        for tilts in itertools.product("lrud", repeat=length):
            yield "".join(tilts)
