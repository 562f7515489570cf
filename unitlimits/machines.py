"""Kinds with as many states as a question needs."""

from unitlimits.words import used


def grown(letters, begin, after):
    """The nodes that steps lead to from begin, rows like those of a kind for them, and what each of their steps gains.

    after(node, letter) is a pair of the node that the letter leads to and what this gains, or None.
    """
    numbers = {begin: 0}
    nodes = [begin]
    rows = []
    gains = []
    while len(rows) < len(nodes):
        steps = [after(nodes[len(rows)], letter) for letter in range(letters)]
        for step in steps:
            if step is not None and step[0] not in numbers:
                numbers[step[0]] = len(nodes)
                nodes.append(step[0])
        rows.append([None if step is None else numbers[step[0]] for step in steps])
        gains.append([0 if step is None else step[1] for step in steps])
    return nodes, rows, gains


def trimmed(kind):
    """The kind with None for each item that no word of the kind takes, and no end that no word of it comes to."""
    letters, rows, ends = kind
    taken = [False] * len(rows)
    for state in used(kind):
        taken[state] = True
    kept = []
    for state, row in enumerate(rows):
        kept.append([item if item is not None and taken[state] and taken[item] else None for item in row])
    return letters, kept, [end and taken[state] for state, end in enumerate(ends)]
