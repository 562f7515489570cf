"""Forms: sums of counts, how great they become on the words of a kind, and papers by which this can be checked."""

from unitlimits.machines import trimmed
from unitlimits.searches import earlier, first_word
from unitlimits.tops import greatest_gain, highest
from unitlimits.words import LETTERS, are_letters, is_integer, is_of, used


def worth(form, word):
    """The sum of the form's items for the letters of a word, as often as they stand in it."""
    return sum([item * word.count(letter) for item, letter in zip(form, LETTERS)])


def unlike(kind, one, other):
    """The first word of the kind at which two forms have unlike worths, or None."""
    more = tuple([item - less for item, less in zip(one, other)])
    return earlier(above(kind, more, 0), above(kind, tuple([-item for item in more]), 0))


def greatest(kind, form):
    """("none",), ("most", number, word) with the greatest worth, or ("ring", begin, round, end) if there is none."""
    return greatest_gain(trimmed(kind), _gain(form))


def _gain(form):
    """The function that tells what a step gains: the form's item for its letter."""
    return lambda state, letter: form[letter]


def above(kind, form, bound):
    """The first word of the kind whose worth is greater than the bound, or None."""
    # Without the states that are not used, whose rings may grow but lead nowhere.
    letters, rows, ends = trimmed(kind)
    best = [None] * len(rows)
    best[0] = 0

    def after(node, letter):
        state, so_far = node
        target = rows[state][letter]
        if target is None:
            return []
        total = so_far + form[letter]
        # Whatever word goes on from here, it goes on from the earlier word with as great a worth, too.
        if best[target] is not None and best[target] >= total:
            return []
        best[target] = total
        return [(target, total)]

    def is_end(node):
        return ends[node[0]] and node[1] > bound

    return first_word(letters, [(0, 0)], after, is_end)


def paper(kind, form, bound):
    """A paper: ("word", word) with a word above the bound, or ("heights", heights) which show that there is none."""
    word = above(kind, form, bound)
    if word is not None:
        return "word", word
    tops, _ = highest(trimmed(kind), _gain(form))
    return "heights", tuple([None if top is None else bound - top for top in tops])


def paper_holds(kind, form, bound, value):
    """Whether a value is a paper for the kind, the form and the bound."""
    if not isinstance(value, tuple) or len(value) != 2:
        return False
    name, told = value
    if name == "word":
        return are_letters(told, kind[0]) and is_of(kind, told) and worth(form, told) > bound
    return name == "heights" and _are_heights(kind, form, bound, told)


def _are_heights(kind, form, bound, value):
    """Whether a value is heights for the kind, the form and the bound."""
    _, rows, ends = kind
    states = used(kind)
    if not isinstance(value, tuple) or len(value) != len(rows) or not _stand_at(value, states):
        return False
    for state in states:
        if ends[state] and value[state] > bound:
            return False
        for target, item in zip(rows[state], form):
            if target in states and value[target] < value[state] + item:
                return False
    return 0 not in states or value[0] >= 0


def _stand_at(heights, states):
    """Whether heights have integers at these states, and None at the others."""
    for state, height in enumerate(heights):
        stands = is_integer(height) if state in states else height is None
        if not stands:
            return False
    return True
