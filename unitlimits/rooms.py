"""Rooms: words of a kind by what they may still count in the unit of a limit, which is the room that is left."""

from unitlimits.strides import Best, last_ways, no_ways, strides


def grows(kind, unit, form):
    """Whether letters that count nothing lead from some state of a kind back to it with a worth above 0."""
    _, rows, _ = kind
    steps = [(state, target, form[letter]) for state, row in enumerate(rows) for letter, target in enumerate(row)
             if target is not None and unit[letter] == 0]
    worths = [0] * len(rows)
    # As many rounds as there are states, each of which goes on only if the one ahead lifted something.
    for _ in rows:
        lifted = False
        for state, target, gain in steps:
            if worths[state] + gain > worths[target]:
                worths[target] = worths[state] + gain
                lifted = True
        if not lifted:
            return False
    return True


def best_within(kind, unit, room, form, begins):
    """The best words of a kind from begins on that count at most so much, and what 1 of worth adds to their sums.

    A word is the better the greater its worth, of those of equal worth the shorter it is. The kind does not grow.
    """
    _, rows, ends = kind
    # More than the best word has letters, as it comes to no state twice with the same room.
    size = len(rows) * (room + 1) + 1
    found = strides(rows, unit, [item * size - 1 for item in form], begins)
    return Best(found, room, last_ways(found, ends), no_ways(found)), size


def with_rooms(kind, behind, unit, room):
    """A trimmed kind, with a state for each room, of those words of a kind that count at most so much.

    behind tells what a way from each state to an end counts at the least.
    """
    letters, rows, ends = kind
    numbers = {(0, room): 0}
    nodes = [(0, room)]
    product = []
    while len(product) < len(nodes):
        state, left = nodes[len(product)]
        row = [None] * letters
        for letter, target in enumerate(rows[state]):
            if target is not None and left - unit[letter] >= behind[target]:
                node = (target, left - unit[letter])
                place = numbers.get(node)
                if place is None:
                    place = numbers[node] = len(nodes)
                    nodes.append(node)
                row[letter] = place
        product.append(row)
    return letters, product, [ends[state] for state, _ in nodes]
