"""Edits of cuts: tuples of a name and the values that it takes."""

from unitlimits.cuts import cuts_error
from unitlimits.errors import BadCuts, NoCut
from unitlimits.words import is_number

# How many values each edit takes.
VALUES = {"add": 1, "drop": 1, "change": 2, "lift": 1, "allow": 2}


def is_edit(value):
    """Whether a value is a tuple of the name of an edit and as many values as it takes."""
    if not isinstance(value, tuple) or value == () or not isinstance(value[0], str):
        return False
    return value[0] in VALUES and len(value) == 1 + VALUES[value[0]]


def is_index(value, cuts):
    """Whether a value is an index of the cuts."""
    return is_number(value, 0, len(cuts) - 1)


def edited(letters, units, cuts, edit):
    """What an edit makes of the cuts for these units of so many letters; raises NoCut or BadCuts."""
    name = edit[0]
    if name == "add":
        return _allowed(letters, units, cuts + (edit[1],))
    index = edit[1]
    if not is_index(index, cuts):
        raise NoCut(index)
    if name == "drop":
        return cuts[:index] + cuts[index + 1:]
    if name == "lift":
        return _lifted(cuts, index)
    if name == "change":
        return _allowed(letters, units, _changed(cuts, index, edit[2]))
    unit, _, clings = cuts[index]
    return _allowed(letters, units, _changed(cuts, index, (unit, edit[2], clings)))


def _changed(cuts, index, cut):
    """The cuts with another one at an index."""
    return cuts[:index] + (cut,) + cuts[index + 1:]


def _lifted(cuts, index):
    """The cuts with the one at an index ahead of the one ahead of it."""
    if index == 0:
        return cuts
    return cuts[:index - 1] + (cuts[index], cuts[index - 1]) + cuts[index + 1:]


def _allowed(letters, units, cuts):
    """A value, if it is cuts for these units of so many letters; raises BadCuts."""
    error = cuts_error(letters, units, cuts)
    if error is not None:
        raise BadCuts(error)
    return cuts
