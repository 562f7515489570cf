"""Limits: whether what keeps one limit keeps another one, and how much it can have of a form."""

from unitlimits.forms import above, greatest
from unitlimits.machines import grown


def breach(kind, one, other):
    """The first word of the kind that keeps the limit one, but not the limit other; or None."""
    unit, most = other
    return above(kept(kind, one), unit, most)


def most_kept(kind, limit, form):
    """What greatest tells, but of those words of the kind that keep the limit."""
    return greatest(kept(kind, limit), form)


def kept(kind, limit):
    """The kind, with more states, of those words of a kind that keep a limit."""
    letters, rows, ends = kind
    unit, most = limit

    def after(node, letter):
        state, count = node
        target = rows[state][letter]
        if target is None or count + unit[letter] > most:
            return None
        return (target, count + unit[letter]), 0

    nodes, steps, _ = grown(letters, (0, 0), after)
    return letters, steps, [ends[state] for state, _ in nodes]
