"""Whether a row of cuts leaves a word at least up to a mark: a place in it, told while the word is read from there on.

What is known of a row is True (it leaves so much, however the word goes on), False (it does not), or, as long as it
may depend on what follows, a tuple with a pair (over, border) of spans for each cut. The spans count the letters from
the mark on: span 1 ends with the first letter with which a cut gets over its number, span 2 with the next such
letter, and so on. over is the span with whose last letter the cut has got over its number, 0 if it is not over it.
border is the span in which the last border stands that the cut can leave, 0 if this is ahead of the mark.
"""


def marked(cuts):
    """What is known of a row of cuts at the mark, where none of them is over its number."""
    return _known([(0, 0) for _ in cuts])


def read_on(cuts, row, letter, counts):
    """What is known of a row behind one more letter, with which the word has these counts in the units."""
    if row is True or row is False:
        return row
    span = _span(row)
    items = []
    for (unit, most, clings), (over, border) in zip(cuts, row):
        if over == 0:
            items.append((span if counts[unit] > most else 0, border if letter in clings else span))
        else:
            items.append((over, border))
    return _known(items)


def _span(row):
    """The span of the next letter."""
    return 1 + max([over for over, _ in row])


def _known(items):
    """What is known of a row with these items."""
    return True if all([border > 0 for _, border in items]) else tuple(items)


def waiting(row):
    """The indexes of the cuts of a row whose counts still matter."""
    if row is True or row is False:
        return []
    return [at for at, (over, _) in enumerate(row) if over == 0]


def holds(row):
    """Whether a row leaves the word at least up to the mark, if the word ends here."""
    if row is True or row is False:
        return row
    place = _span(row)
    for over, border in row:
        # A cut gets over its number with the last letter of a span, so spans tell whether a place is behind this.
        if 0 < over < place:
            place = border
    return place > 0
