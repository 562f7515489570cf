"""Breaches: the first word that counts more than so much in one unit, and at most so much in another one."""

from unitlimits.machines import without_common
from unitlimits.rooms import best_within, grows
from unitlimits.searches import first_way, word_to
from unitlimits.strides import Best, no_ways, strides
from unitlimits.words import LETTERS


def first_over(kind, unit, bound):
    """The first word of a trimmed kind that counts more than the bound in a unit, if there is one."""
    _, rows, ends = kind
    unit, bound = without_common(unit, bound)
    found = strides(rows, unit, [-1] * len(unit), [0])
    beyond = no_ways(found)
    for state in found:
        word = first_way(rows, state, ends)
        if word is not None:
            beyond[state] = (-len(word), word)
    return Best(found, bound, no_ways(found), beyond).best_word(0, bound)


def first_breach(kind, behind, unit, room, form, bound):
    """The first word of a trimmed kind that counts at most room in a unit, and more than the bound in a form.

    There is such a word. behind tells what a way from each state to an end counts in the unit at the least.
    """
    span = room + 1
    steps = _steps(kind, behind, unit, form, span)
    hopes, size = _hopes(kind, unit, room, form, bound)
    # For each place, which is a state and the room that is left, the greatest count so far in the form.
    most = [-1] * len(hopes)
    nodes = [(room, 0)]
    came = [None]
    at = 0
    while True:
        place, so_far = nodes[at]
        for letter, onward, least, gain, is_end in steps[place // span]:
            after = place + onward
            if after >= least:
                total = so_far + gain if so_far + gain <= bound else bound + 1
                # Whatever word goes on from here, it goes on from an earlier one with as great a count, too.
                if total > most[after] and hopes[after] > (bound - total) * size:
                    if is_end and total > bound:
                        return word_to(came, at) + LETTERS[letter]
                    most[after] = total
                    nodes.append((after, total))
                    came.append((at, letter))
        at += 1


def _steps(kind, behind, unit, form, span):
    """For each state its steps as items (letter, what it adds to a place, the least place behind it, gain, end)."""
    _, rows, ends = kind
    found = []
    for state, row in enumerate(rows):
        found.append([(letter, (target - state) * span - unit[letter], target * span + behind[target], form[letter],
                       ends[target]) for letter, target in _useful(state, row, unit, form)])
    return found


def _useful(state, row, unit, form):
    """Pairs (letter, target) of a state's row, without the letters that a first word never takes."""
    kept = []
    for letter, target in enumerate(row):
        # In its place none could stand, or an earlier letter.
        idle = target is None or target == state and form[letter] == 0
        if not idle and not any([other == target and unit[earlier] <= unit[letter] and form[earlier] >= form[letter]
                                 for earlier, other in kept]):
            kept.append((letter, target))
    return kept


def _hopes(kind, unit, room, form, bound):
    """For each place the most that the form can still count, times a size that comes with it, or a little less."""
    if grows(kind, unit, form):
        return [bound + 1] * (len(kind[1]) * (room + 1)), 1
    best, size = best_within(kind, unit, room, form, list(range(len(kind[1]))))
    return [total for state in range(len(kind[1])) for total in best.sums[state][best.ahead:]], size
