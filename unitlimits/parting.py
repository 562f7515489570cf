"""Parts of all words: which words a cut cannot part, and in how many parts it parts those that keep a limit.

A group is a letter with the letters that cling behind it. A cut parts a word just if no group counts more than its
number.
"""

from unitlimits.loads import first_of_most, promises, with_loads
from unitlimits.machines import trimmed, within, without_common
from unitlimits.searches import first_way
from unitlimits.tops import components, greatest_gain
from unitlimits.words import LETTERS

# What stands in the place of the count of the last group, if a group counts more than the cut's number.
STUCK = -1


def stuck(kind, units, cut):
    """The first word of the kind that cannot be parted by the cut, or None."""
    _, rows, ends = trimmed(kind)
    nodes, product = _grouped(rows, units, cut, cut[2] != "")
    return first_way(product, 0, [ends[state] and group == STUCK for state, group in nodes])


def _grouped(rows, units, cut, apart):
    """Pairs of a state and the count of the last group, and rows like those of a kind for them.

    The counts are told apart only if this is asked, otherwise 0 stands in the place of each.
    """
    index, most, clings = cut
    steps = [(letter, count, LETTERS[letter] in clings) for letter, count in enumerate(units[index])]
    numbers = {(0, 0): 0}
    nodes = [(0, 0)]
    product = []
    while len(product) < len(nodes):
        state, group = nodes[len(product)]
        row = [None] * len(steps)
        for letter, count, clinging in steps:
            if rows[state][letter] is not None:
                after = group + count if clinging else count
                if group == STUCK or after > most:
                    after = STUCK
                elif not apart:
                    after = 0
                node = (rows[state][letter], after)
                if node not in numbers:
                    numbers[node] = len(nodes)
                    nodes.append(node)
                row[letter] = numbers[node]
        product.append(row)
    return nodes, product


def most_parts(kind, units, cut, limit):
    """What greatest tells, but of the numbers of parts of those words that keep the limit and can be parted."""
    index, most = limit
    unit, room = without_common(units[index], most)
    # Groups need not be told apart where no letter joins one.
    steps, ends, behind = _steps(kind, units, cut, unit, room, cut[2] != "")
    if behind[0] is None or behind[0] > room:
        return ("none",)
    base = cut[1] + 1
    free = [[target for _, target, spent, _, _ in row if spent == 0] for row in steps]
    order = list(components(free))
    if _grows(steps, order):
        steps, ends, behind = _steps(kind, units, cut, unit, room, True)
        counts = units[cut[0]]
        loaded, nodes = with_loads(kind[0], steps, ends, behind, base, room)
        return greatest_gain(loaded, lambda state, letter: 1 if nodes[state][2] + counts[letter] >= base else 0)
    number, word = first_of_most(steps, ends, promises(steps, ends, order, base, room), base, room)
    return "most", number, word


def _steps(kind, units, cut, unit, room, apart):
    """Steps and ends, as loads tells them, of the words that count at most so much, and what an end takes at least."""
    counts = units[cut[0]]
    letters, rows, ends = trimmed(kind)
    nodes, product = _grouped(rows, units, cut, apart)
    goals = [ends[state] and group != STUCK for state, group in nodes]
    (_, rows, goals), behind = within((letters, product, goals), unit, room)
    steps = [[(letter, target, unit[letter], counts[letter], nodes[target][1] if apart else counts[letter])
              for letter, target in enumerate(row) if target is not None] for row in rows]
    return steps, goals, behind


def _grows(steps, order):
    """Whether steps that spend nothing lead from some state back to it and count something."""
    place = {state: at for at, component in enumerate(order) for state in component}
    return any([spent == 0 and count > 0 and place[state] == place[target]
                for state, row in enumerate(steps) for _, target, spent, count, _ in row])
