"""The first word of which one row of cuts leaves more than another one."""

from unitlimits.marks import holds, marked, read_on, waiting
from unitlimits.searches import first_word
from unitlimits.words import LETTERS


def first_longer(kind, units, one, other):
    """The first word of the kind of which the cuts one leave more than the cuts other, or None.

    It is so just if there is a mark behind the first letter or a later one up to which one leaves the word, and other
    does not. So the search tries a mark behind each letter.
    """
    letters, rows, ends = kind
    tried = {}

    def after(node, letter):
        state, known = node
        target = rows[state][letter]
        if target is None:
            return []
        # What the cuts do is the same for all states.
        if (known, letter) not in tried:
            tried[known, letter] = _onward(units, one, other, known, letter)
        return [(target, onward) for onward in tried[known, letter]]

    def is_end(node):
        state, (_, pair) = node
        return ends[state] and pair is not None and holds(pair[0]) and not holds(pair[1])

    return first_word(letters, [(0, ((0,) * len(units), None))], after, is_end)


def _onward(units, one, other, known, letter):
    """What can be known behind one more letter: pairs of the counts and a pair of what is known of one and other.

    Ahead of the mark None stands in the place of this pair. Marks up to which other leaves the word are left out.
    """
    counts, pair = known
    counts = [count + unit[letter] for count, unit in zip(counts, units)]
    if pair is not None:
        name = LETTERS[letter]
        pairs = [(read_on(one, pair[0], name, counts), read_on(other, pair[1], name, counts))]
    elif _is_over(one, counts):
        pairs = []
    elif _is_over(other, counts):
        # No later mark is better.
        pairs = [(marked(one), False)]
    else:
        pairs = [None, (marked(one), marked(other))]
    return [(_needed(one, other, onward, counts), onward) for onward in pairs
            if onward is None or onward[1] is not True]


def _is_over(cuts, counts):
    """Whether one of the cuts is over its number."""
    return any([counts[unit] > most for unit, most, _ in cuts])


def _needed(one, other, pair, counts):
    """The counts, with 0 in the place of each that no cut asks for any more."""
    if pair is None:
        asked = [cut[0] for cut in one + other]
    else:
        asked = [one[at][0] for at in waiting(pair[0])] + [other[at][0] for at in waiting(pair[1])]
    return tuple([count if unit in asked else 0 for unit, count in enumerate(counts)])
