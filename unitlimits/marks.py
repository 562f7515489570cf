"""Whether a row of cuts leaves a word at least up to a mark: a place in it, told while the word is read from there on.

What is known of a row is True (it leaves so much, however the word goes on), False (it never does), or, as long as
it depends on what follows, a tuple with an item for each cut: None for a cut that takes nothing away any more or does
not matter, otherwise a pair (over, border) of spans. The spans count the letters from the mark on: span 1 ends with
the first letter with which a cut that matters gets over its number, span 2 with the next such letter, and so on.
over is the span with whose last letter the cut has got over its number, 0 if it is not over it. border is the span
in which the last border stands that the cut can leave, 0 if this is ahead of the mark.
"""


def marked(cuts):
    """What is known of a row of cuts at the mark, where none of them is over its number."""
    return _known([(0, 0) for _ in cuts])


def read_on(cuts, row, letter, counts):
    """What is known of a row behind one more letter, with which the word has these counts in the units."""
    if row is True or row is False:
        return row
    span = _span(row)
    items = []
    for (unit, most, clings), item in zip(cuts, row):
        if item is None or item[0] > 0:
            items.append(item)
        elif any([ahead is not None and ahead[0] > 0 for ahead in items]):
            # What a cut ahead of it leaves is not too much for a cut that gets over its number no earlier.
            items.append(None)
        else:
            items.append((span if counts[unit] > most else 0, item[1] if letter in clings else span))
    return _known(items)


def _span(row):
    """The span of the next letter."""
    return 1 + max([item[0] for item in row if item is not None], default=0)


def _known(items):
    """What is known of a row, in its shortest form."""
    if all([item is None or item[1] > 0 for item in items]):
        return True
    if any([_is_lost(items, at) for at in range(len(items))]):
        return False
    row = tuple([None if _is_idle(items, at) else item for at, item in enumerate(items)])
    return row if waiting(row) else holds(row)


def _is_lost(items, at):
    """Whether a cut leaves less than the mark for sure, or one ahead of it does."""
    if items[at] is None or items[at][0] == 0 or items[at][1] > 0:
        return False
    # Only a border that is not ahead of the mark, but not too far for this cut either, could still save the word.
    return not any([item is not None and 0 < item[1] <= items[at][0] for item in items[:at]])


def _is_idle(items, at):
    """Whether a cut is over its number and harmless, and no cut behind it waits for what it leaves."""
    if items[at] is None or items[at][0] == 0 or items[at][1] == 0:
        return False
    return all([item is None or item[0] == 0 or item[1] > 0 for item in items[at + 1:]])


def waiting(row):
    """The indexes of the cuts of a row that matter and are not over their number."""
    if row is True or row is False:
        return []
    return [at for at, item in enumerate(row) if item is not None and item[0] == 0]


def holds(row):
    """Whether a row leaves the word at least up to the mark, if the word ends here."""
    if row is True or row is False:
        return row
    place = _span(row)
    for item in row:
        if item is not None and 0 < item[0] < place:
            place = item[1]
    return place > 0
