"""Loads: in how many parts a cut parts words that keep a limit, by what the last part counts so far, its load.

Steps are a list for each state, with items (letter, target, spent, count, group): what the letter counts in the unit
of the limit and in that of the cut, and what the group counts that ends with it. No group counts as much as base, the
cut's number and 1. A part begins with a group with which the load would become base or more, and with the first one.

From a state on, words have as many parts more for all loads up to one of them, and 1 part more for those above it. So
the promise of a state is one integer: at the best (promise + load) // base parts begin on the way on from it.
"""

from unitlimits.searches import word_to
from unitlimits.words import LETTERS

# Less than every promise.
NEVER = -1000000000000000000


def promises(steps, ends, order, base, room):
    """For each state a list of its promises, by what may still be spent, from as far below 0 on as one letter leads.

    order tells the components of the steps that spend nothing, as components does. Such steps count nothing within a
    component, so that it has one promise.
    """
    ahead = _farthest(steps)
    found = [None] * len(steps)
    for component in order:
        own = [NEVER] * ahead
        for state in component:
            found[state] = own
    told = []
    for component in order:
        onward = [(spent, count, group, found[target]) for state in component
                  for _, target, spent, count, group in steps[state] if spent > 0 or target not in component]
        told.append((found[component[0]], 0 if any([ends[state] for state in component]) else NEVER, onward))
    for at in range(ahead, ahead + room + 1):
        for own, best, onward in told:
            for spent, count, group, others in onward:
                promise = others[at - spent]
                rest = promise % base
                # What follows fills its first part up to the rest, if the group does not stand in this part.
                promise = promise + count if rest + group < base else promise + count + base - rest
                if promise > best:
                    best = promise
            own.append(best)
    return found


def _farthest(steps):
    """The most that one letter spends."""
    return max([spent for row in steps for _, _, spent, _, _ in row], default=0)


def first_of_most(steps, ends, found, base, room):
    """The greatest number of parts, and the first word that has so many."""
    ahead = _farthest(steps)
    parts = 1 + max([(found[target][ahead + room - spent] + group) // base for _, target, spent, _, group in steps[0]],
                    default=-1)
    if parts <= 0:
        return 0, ""
    # A load of base at the beginning, as the first letter begins a part.
    nodes = [(0, room, base, parts)]
    came = [None]
    seen = {}
    at = 0
    while True:
        state, left, load, more = nodes[at]
        for letter, target, spent, count, group in steps[state]:
            is_over = load + count >= base
            node = (target, left - spent, group if is_over else load + count, more - 1 if is_over else more)
            # Only ways on which the most parts are still to be had.
            if node not in seen and (found[target][ahead + node[1]] + node[2]) // base == node[3]:
                if node[3] == 0 and ends[target]:
                    return parts, word_to(came, at) + LETTERS[letter]
                seen[node] = True
                nodes.append(node)
                came.append((at, letter))
        at += 1


def with_loads(letters, steps, ends, behind, base, room):
    """A trimmed kind of so many letters, with a state for each load and each room that is left, and its states.

    behind tells what a way from each state to an end spends at the least. The states are items (state, left, load).
    """
    numbers = {(0, room, base): 0}
    nodes = [(0, room, base)]
    rows = []
    while len(rows) < len(nodes):
        state, left, load = nodes[len(rows)]
        row = [None] * letters
        for letter, target, spent, count, group in steps[state]:
            if left - spent >= behind[target]:
                node = (target, left - spent, load + count if load + count < base else group)
                place = numbers.get(node)
                if place is None:
                    place = numbers[node] = len(nodes)
                    nodes.append(node)
                row[letter] = place
        rows.append(row)
    return (letters, rows, [ends[state] for state, _, _ in nodes]), nodes
