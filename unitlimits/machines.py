"""Kinds with fewer steps, as words within a limit use them."""

from math import gcd


def trimmed(kind):
    """The kind with None for each item that no word of the kind takes, and no end that no word of it comes to."""
    return within(kind, (0,) * kind[0], 0)[0]


def within(kind, unit, most):
    """The kind, trimmed for its words that count at most so much, and for each state the least count to an end.

    Words of the new kind that count more are left in it. The count is None where no way leads to an end.
    """
    letters, rows, ends = kind
    steps = [[(target, count) for target, count in zip(row, unit) if target is not None] for row in rows]
    ahead = least_counts(steps, [0])
    behind = least_counts(_turned(steps), [state for state, end in enumerate(ends) if end])
    room = [-1 if count is None else most - count for count in behind]
    kept = []
    for row, so_far in zip(rows, ahead):
        if so_far is None:
            kept.append((None,) * letters)
        else:
            kept.append([target if target is not None and so_far + count <= room[target] else None
                         for target, count in zip(row, unit)])
    last = [end and so_far is not None and so_far <= most for end, so_far in zip(ends, ahead)]
    return (letters, kept, last), behind


def _turned(steps):
    """Lists of pairs (target, count) the other way round."""
    back = [[] for _ in steps]
    for state, pairs in enumerate(steps):
        for target, count in pairs:
            back[target].append((state, count))
    return back


def least_counts(steps, begins):
    """For each state the least count of a way of steps to it from one of begins, or None."""
    least = [None] * len(steps)
    for state in begins:
        least[state] = 0
    waiting = list(begins)
    at = 0
    while at < len(waiting):
        state = waiting[at]
        for target, count in steps[state]:
            total = least[state] + count
            if least[target] is None or total < least[target]:
                least[target] = total
                waiting.append(target)
        at += 1
    return least


def without_common(unit, most):
    """A unit and a number, divided by what all counts of the unit have in common."""
    common = 0
    for count in unit:
        common = gcd(common, count)
    if common == 0:
        return unit, 0
    return [count // common for count in unit], most // common
