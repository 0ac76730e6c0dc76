"""Heaps of marbles, and words that are repeated."""

from math import lcm

from tiltheap.checks import check_marble, check_number
from tiltheap.trays import EMPTY, Tray

MAX_ROUNDS = 10 ** 18


def row_lengths(tray, word):
    """Return the list of how many marbles lie in each row after a word."""
    after = tray >> word
    return [len(row.replace(EMPTY, "")) for row in after.rows]


def heap_lengths(tray, word):
    """Return the lengths of the heap's rows from the corner on, or None without a corner."""
    corner = word.corner
    if corner is None:
        return None
    lengths = row_lengths(tray, word)
    if corner[0] == "d":
        lengths.reverse()
    return [length for length in lengths if length > 0]


def after_rounds(tray, word, times):
    """Return the tray after a word has been repeated so many times."""
    check_number(times, MAX_ROUNDS)
    if times == 0:
        return tray
    first = tray >> word
    moves = exchange(tray, word)
    cells = [[EMPTY] * tray.width for _ in range(tray.height)]
    for marble in first.marbles:
        circle = _circle_from(first(marble), moves)
        # The first round leads to the circle's beginning; only the others go along it.
        # By `int` it is plain that the sign for the rest stands behind a number.
        row, column = circle[int(times - 1) % len(circle)]
        cells[row][column] = marble
    rows = ["".join(line) for line in cells]
    return Tray(*rows)


def marble_after(tray, marble, word, times):
    """Return the place of a marble after a word has been repeated so many times."""
    check_marble(tray, marble)
    after = after_rounds(tray, word, times)
    return after(marble)


def exchange(tray, word):
    """Return a dict from the places after the first round to those a round later."""
    first = tray >> word
    second = first >> word
    return {first(marble): second(marble) for marble in first.marbles}


def circles(tray, word):
    """Return the ascending list of the circles of marbles that exchange their places."""
    first = tray >> word
    second = first >> word
    followers = {marble: second.at(first(marble)) for marble in first.marbles}
    found = []
    seen = set()
    # In ascending order, each circle is met at its least marble.
    for start in first.marbles:
        if start in seen:
            continue
        circle = _circle_from(start, followers)
        for marble in circle:
            seen.add(marble)
        found.append("".join(circle))
    return found


def back_after(tray, word):
    """Return after how many rounds all marbles lie again where they lie after the first one."""
    rounds = 1
    for circle in circles(tray, word):
        rounds = lcm(rounds, len(circle))
    return rounds


def is_back(tray, word):
    """Tell whether all marbles come back to where they lie before the first round."""
    # From the first round on, the trays go round a circle. If the tray before that
    # round is on this circle, too, it is the last one ahead of the first one.
    return after_rounds(tray, word, back_after(tray, word)) == tray


def first_unlike_round(tray, word, other):
    """Return after how many rounds two words lead to different trays first, or None."""
    one, two = tray >> word, tray >> other
    if one != two:
        return 1
    if one >> word != two >> other:
        return 2
    return None


def _circle_from(start, followers):
    """Return the list of what follows one another in a dict, from a start until it is back."""
    circle = [start]
    following = followers[start]
    while following != start:
        circle.append(following)
        following = followers[following]
    return circle
