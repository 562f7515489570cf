"""Words and kinds: whether a value is a kind, whether a word is of a kind, and which states words use."""

from unitlimits.bounds import MAX_LETTERS, MAX_STATES

# More than MAX_LETTERS, because callers may go somewhat beyond it.
LETTERS = "abcdefghijklmnopqrstuvwxyz"


def is_integer(value):
    """Whether a value is an integer."""
    # A bool is an int to Python, but no integer to the document.
    return isinstance(value, int) and not isinstance(value, bool)


def is_number(value, least, most):
    """Whether a value is an integer from least to most."""
    return is_integer(value) and least <= value <= most


def letter_number(letter):
    """The number of a letter, counted from 0."""
    return ord(letter) - ord("a")


def are_letters(value, letters):
    """Whether a value is a text of so many letters."""
    return isinstance(value, str) and all([0 <= letter_number(letter) < letters for letter in value])


def kind_error(value):
    """None for a kind, otherwise the first part that is wrong: "kind", "letters", "rows" or "ends"."""
    if not isinstance(value, tuple) or len(value) != 3:
        return "kind"
    letters, rows, ends = value
    if not is_number(letters, 1, MAX_LETTERS):
        return "letters"
    if not _are_rows(rows, letters):
        return "rows"
    if not _are_ends(ends, len(rows)):
        return "ends"
    return None


def _are_rows(value, letters):
    """Whether a value is the rows of a kind with so many letters."""
    if not isinstance(value, tuple) or not 1 <= len(value) <= MAX_STATES:
        return False
    return all([_is_row(row, letters, len(value)) for row in value])


def _is_row(value, letters, states):
    """Whether a value is a row of a kind with so many letters and states."""
    if not isinstance(value, tuple) or len(value) != letters:
        return False
    return all([item is None or is_number(item, 0, states - 1) for item in value])


def _are_ends(value, states):
    """Whether a value is the ends of a kind with so many states."""
    if not isinstance(value, tuple) or len(value) != states:
        return False
    return all([isinstance(end, bool) for end in value])


def is_of(kind, word):
    """Whether a word is of the kind."""
    _, rows, ends = kind
    state = 0
    for letter in word:
        state = rows[state][letter_number(letter)]
        if state is None:
            return False
    return ends[state]


def used(kind):
    """The ascending tuple of the states that some word of the kind comes to or through."""
    _, rows, ends = kind
    steps = [[item for item in row if item is not None] for row in rows]
    come_to = _reached(steps, [0])
    # From the ends backwards: where no way goes on to an end, no word of the kind passes.
    go_on = _reached(_turned(steps), [state for state, end in enumerate(ends) if end])
    return tuple([state for state in range(len(rows)) if come_to[state] and go_on[state]])


def _reached(steps, begins):
    """For each state, whether steps lead to it from one of begins, which count themselves."""
    reached = [False] * len(steps)
    waiting = list(begins)
    while waiting:
        state = waiting.pop()
        if not reached[state]:
            reached[state] = True
            waiting.extend(steps[state])
    return reached


def _turned(steps):
    """The steps the other way round: for each state, the states with a step to it."""
    back = [[] for _ in steps]
    for begin, targets in enumerate(steps):
        for target in targets:
            back[target].append(begin)
    return back
