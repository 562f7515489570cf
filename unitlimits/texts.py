"""Texts: schemes, each of which is a kind with units and cuts, and the lines in which they are told."""

from unitlimits.bounds import MAX_COUNT, MAX_LETTERS
from unitlimits.cuts import cuts_error
from unitlimits.errors import BadScheme, BadText
from unitlimits.numerals import clinging, natural
from unitlimits.words import LETTERS, is_number, kind_error

# By the name of a line, and "" for no line, the names of the lines that may follow it.
FOLLOWING = {
    "": ("letters",),
    "letters": ("state",),
    "state": ("state", "unit"),
    "unit": ("unit", "cut"),
    "cut": ("cut",),
}
# The most digits of a number in a text.
DIGITS = 9


def scheme_error(value):
    """None for a scheme, otherwise a pair of the part that is wrong, and what is wrong with it."""
    if not isinstance(value, tuple) or len(value) != 3:
        return "scheme", None
    kind, units, cuts = value
    error = kind_error(kind)
    if error is not None:
        return "kind", error
    if not _are_units(units, kind[0]):
        return "units", None
    error = cuts_error(kind[0], units, cuts)
    return None if error is None else ("cuts", error)


def _are_units(value, letters):
    """Whether a value is units for so many letters."""
    return isinstance(value, tuple) and 1 <= len(value) <= 2 and all([_is_unit(unit, letters) for unit in value])


def _is_unit(value, letters):
    """Whether a value is a unit for so many letters."""
    if not isinstance(value, tuple) or len(value) != letters:
        return False
    return all([is_number(count, 0, MAX_COUNT) for count in value])


def scheme_text(scheme):
    """The text of a scheme."""
    (letters, rows, ends), units, cuts = scheme
    lines = [f"letters {LETTERS[:letters]}"]
    for row, end in zip(rows, ends):
        items = ["." if item is None else str(item) for item in row]
        lines.append(" ".join(["state"] + items + (["end"] if end else [])))
    for unit in units:
        lines.append(" ".join(["unit"] + [str(count) for count in unit]))
    for unit, most, clings in cuts:
        lines.append(" ".join(["cut", str(unit), str(most), clings or "-"]))
    return "\n".join(lines)


def parse_scheme(value):
    """The scheme whose text a value is; raises BadText or BadScheme."""
    if not isinstance(value, str):
        raise BadText(None)
    found = {"letters": [], "state": [], "unit": [], "cut": []}
    last = ""
    lines = value.split("\n")
    for at, line in enumerate(lines):
        words = line.split(" ")
        told = _told(words[0], words[1:]) if words[0] in FOLLOWING[last] else None
        if told is None:
            raise BadText(at)
        last = words[0]
        found[last].append(told)
    if last not in ("unit", "cut"):
        raise BadText(len(lines))
    rows, ends = [row for row, _ in found["state"]], [end for _, end in found["state"]]
    scheme = ((found["letters"][0], tuple(rows), tuple(ends)), tuple(found["unit"]), tuple(found["cut"]))
    error = scheme_error(scheme)
    if error is not None:
        raise BadScheme(error)
    return scheme


def _told(name, words):
    """What the words behind the name of a line tell, or None if no text has such a line."""
    if name == "letters":
        return _letters_told(words)
    if name == "state":
        return _state_told(words)
    if name == "unit":
        return _unit_told(words)
    return _cut_told(words)


def _letters_told(words):
    """The number of letters that a line tells, or None."""
    for letters in range(1, MAX_LETTERS + 1):
        if words == [LETTERS[:letters]]:
            return letters
    return None


def _state_told(words):
    """The row and the end of a state that a line tells, or None."""
    end = words[-1:] == ["end"]
    items = words[:-1] if end else words
    row = [natural(item, DIGITS) for item in items]
    if not 1 <= len(items) <= MAX_LETTERS or any([number is None and item != "." for number, item in zip(row, items)]):
        return None
    return tuple(row), end


def _unit_told(words):
    """The unit that a line tells, or None."""
    unit = tuple([natural(item, DIGITS) for item in words])
    return None if not 1 <= len(unit) <= MAX_LETTERS or None in unit else unit


def _cut_told(words):
    """The cut that a line tells, or None."""
    if len(words) != 3:
        return None
    cut = (natural(words[0], DIGITS), natural(words[1], DIGITS), clinging(words[2]))
    return None if None in cut else cut
