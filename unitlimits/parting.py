"""Parts of all words: which words a cut cannot part, and in how many parts it parts those that keep a limit."""

from unitlimits.limits import kept
from unitlimits.machines import grown
from unitlimits.searches import first_way
from unitlimits.tops import greatest_gain
from unitlimits.words import LETTERS

# What is known of the parts before a letter is read, and when a rest is left nothing.
BEGIN = None
STUCK = ()


def stuck(kind, units, cut):
    """The first word of the kind that cannot be parted by the cut, or None."""
    letters, rows, ends = kind
    nodes, steps, _ = _with_parts(letters, rows, units, cut)
    return first_way(steps, 0, [ends[state] and known == STUCK for state, known in nodes])


def most_parts(kind, units, cut, limit):
    """What greatest tells, but of the numbers of parts of those words that keep the limit and can be parted."""
    index, most = limit
    letters, rows, ends = kept(kind, (units[index], most))
    nodes, steps, gains = _with_parts(letters, rows, units, cut)
    return greatest_gain((letters, steps, [ends[state] and known != STUCK for state, known in nodes]), gains)


def _with_parts(letters, rows, units, cut):
    """What grown tells of nodes (state, known) of the states of rows and what is known of the parts there."""
    tried = {}

    def after(node, letter):
        state, known = node
        if rows[state][letter] is None:
            return None
        # What the cut does is the same for all states.
        if (known, letter) not in tried:
            tried[known, letter] = _parted(units, cut, known, letter)
        onward, gain = tried[known, letter]
        return (rows[state][letter], onward), gain

    return grown(letters, (0, BEGIN), after)


def _parted(units, cut, known, letter):
    """What is known behind one more letter, and how many parts begin with it: 0 or 1.

    Known is (ahead, group): the counts of the last part ahead of the last place at which it can end, and from there.
    """
    index, most, clings = cut
    count = units[index][letter]
    if known == STUCK:
        return STUCK, 0
    if known == BEGIN:
        ahead, group = 0, count
    elif LETTERS[letter] in clings:
        ahead, group = known[0], known[1] + count
    else:
        ahead, group = known[0] + known[1], count
    if group > most:
        return STUCK, 0
    if ahead + group > most:
        return (0, group), 1
    return (ahead, group), 1 if known == BEGIN else 0
