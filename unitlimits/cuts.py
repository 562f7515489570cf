"""Cuts: what they leave of words, and whether rows of them leave the same of all words of a kind, or too much."""

from unitlimits.bounds import MAX_CUT, MAX_CUTS
from unitlimits.places import Beyond, Unlike
from unitlimits.reading import first_read
from unitlimits.words import are_letters, is_number, letter_number


def cuts_error(letters, units, value):
    """None for cuts for these units of so many letters, otherwise (None, "cuts"), (index, "cut") or (None, "many")."""
    if not isinstance(value, tuple):
        return None, "cuts"
    for index, item in enumerate(value):
        if not _is_cut(letters, units, item):
            return index, "cut"
    if len(value) > MAX_CUTS:
        return None, "many"
    return None


def _is_cut(letters, units, value):
    """Whether a value is a cut for these units of so many letters."""
    if not isinstance(value, tuple) or len(value) != 3:
        return False
    unit, most, clings = value
    if not is_number(unit, 0, len(units) - 1) or not is_number(most, 0, MAX_CUT):
        return False
    return are_letters(clings, letters) and all([one < other for one, other in zip(clings, clings[1:])])


def left(units, cuts, word):
    """What the cuts leave of a word."""
    for cut in cuts:
        word = word[:_place(units, cut, word)]
    return word


def _place(units, cut, word):
    """The number of letters that a cut leaves of a word."""
    index, most, clings = cut
    unit = units[index]
    count = 0
    border = 0
    for at, letter in enumerate(word):
        if letter not in clings:
            border = at
        count = count + unit[letter_number(letter)]
        if count > most:
            return border
    return len(word)


def parts(units, cut, word):
    """The tuple of what the cut leaves of a word, of the rest, and so on; None if it leaves nothing of some rest."""
    found = []
    while word:
        place = _place(units, cut, word)
        if place == 0:
            return None
        found.append(word[:place])
        word = word[place:]
    return tuple(found)


def unlike_cuts(kind, units, one, other):
    """The first word of the kind of which two rows of cuts leave unlike words, or None."""
    return first_read(kind, units, Unlike(one, other), None)


def overlong(kind, units, cuts, limit):
    """The first word of the kind of which the cuts leave a word that does not keep the limit, or None."""
    return first_read(kind, units, Beyond(cuts, limit), _loose(cuts, limit))


def _loose(cuts, limit):
    """The only unit of cuts but that of the limit, if cuts leave as much or more where less is counted in it."""
    # What a cut leaves ends with a border for those behind it, whatever clings to them: they may leave less of more.
    if any([clings for _, _, clings in cuts[1:]]):
        return None
    units = sorted({unit for unit, _, _ in cuts if unit != limit[0]})
    return units[0] if len(units) == 1 else None
