"""Limits: whether what keeps one limit keeps another one, and how much it can have of a form."""

from unitlimits.breaches import first_breach, first_over
from unitlimits.forms import worth
from unitlimits.machines import within, without_common
from unitlimits.rooms import best_within, grows, with_rooms
from unitlimits.tops import greatest_gain


def breach(kind, one, other):
    """The first word of the kind that keeps the limit one, but not the limit other; or None."""
    unit, room = without_common(one[0], one[1])
    form, bound = other
    kept, behind = within(kind, unit, room)
    if behind[0] is None or behind[0] > room:
        return None
    if not grows(kept, unit, form):
        best, size = best_within(kept, unit, room, form, [0])
        if best.best_sum(0, room) <= bound * size:
            return None
    word = first_over(kept, form, bound)
    # The first of all words is the first of those that keep the limit one, too, if it keeps it.
    if worth(one[0], word) <= one[1]:
        return word
    return first_breach(kept, behind, unit, room, form, bound)


def most_kept(kind, limit, form):
    """What greatest tells, but of those words of the kind that keep the limit."""
    unit, room = without_common(limit[0], limit[1])
    kept, behind = within(kind, unit, room)
    if behind[0] is None or behind[0] > room:
        return ("none",)
    if grows(kept, unit, form):
        return greatest_gain(with_rooms(kept, behind, unit, room), lambda state, letter: form[letter])
    best, size = best_within(kept, unit, room, form, [0])
    return "most", -(-best.best_sum(0, room) // size), best.best_word(0, room)
