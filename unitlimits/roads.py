"""Roads: to which places numbers lead that are read in one unit, and told and read on in further ones.

A place that is told and read in a unit moves behind the letters that follow and count nothing in it. So of all units
but the first one of a road only these letters matter.
"""

from unitlimits.machines import least_counts, trimmed
from unitlimits.searches import word_to
from unitlimits.words import LETTERS, letter_number

# The position on a road of a number that has come to its place, and that on both roads if the places are unlike.
STOPPED = -1
APART = -2


def comes_to(units, road, word, number):
    """The place of the word to which a number comes along the road."""
    place = _read(units[road[0]], word, 0, number)
    for index in road[1:]:
        place = _read(units[index], word, place, 0)
    return place


def _read(unit, word, place, number):
    """The greatest place such that the letters from a place up to there count at most so much."""
    while place < len(word):
        number = number - unit[letter_number(word[place])]
        if number < 0:
            return place
        place = place + 1
    return place


def back(units, road, word, place):
    """The least number that comes to the place of the word along the road, or None."""
    unit = units[road[0]]
    moves = [_moves(units[index], word) for index in road[1:]]
    number = 0
    for at in range(len(word) + 1):
        count = unit[letter_number(word[at])] if at < len(word) else 1
        # Where the next letter counts nothing, no number stands for the place.
        if count > 0 and _moved(moves, at) == place:
            return number
        number = number + count
    return None


def _moves(unit, word):
    """For each place of the word the one behind the letters that follow it and count nothing in the unit."""
    moves = [len(word)]
    for letter in word[::-1]:
        moves.append(moves[-1] if unit[letter_number(letter)] == 0 else len(word) - len(moves))
    return moves[::-1]


def _moved(moves, place):
    """The place to which all moves lead, one after another."""
    for behind in moves:
        place = behind[place]
    return place


def unlike_roads(kind, units, one, other, most):
    """The first pair (word, number) of a word of the kind and a number that comes to unlike places of it, or None."""
    word = _first_unlike(trimmed(kind), units, one, other, most)
    if word is None:
        return None
    numbers = [number for number in range(most + 1)
               if comes_to(units, one, word, number) != comes_to(units, other, word, number)]
    return word, numbers[0]


def _first_unlike(kind, units, one, other, most):
    """The first word of a trimmed kind in which some number comes to unlike places along two roads, or None.

    A search through items (state, position on one road, position on the other). Up to most a position is what may
    still be counted in the first unit; those above it are told by _positions.
    """
    letters, rows, ends = kind
    positions = _positions(one, other, most)
    onward = [(_onward(units, one, positions, most, letter), _onward(units, other, positions, most, letter))
              for letter in range(letters)]
    # For each word the items that no earlier one leads to.
    found = [[(0, number, number) for number in range(most + 1)]]
    seen = {item: True for item in found[0]}
    came = [None]
    at = 0
    while at < len(found):
        for letter in range(letters):
            items_on = []
            for state, here, there in found[at]:
                here, there = _pair_on(onward[letter], here, there, most)
                item = (rows[state][letter], here, there)
                if item[0] is not None and here != STOPPED and item not in seen:
                    if here == APART and ends[item[0]]:
                        return word_to(came, at) + LETTERS[letter]
                    seen[item] = True
                    items_on.append(item)
            if items_on:
                found.append(items_on)
                came.append((at, letter))
        at += 1
    return None


def _positions(one, other, most):
    """Numbers from most + 1 on for what may be left of two roads behind their first units, the same for the same."""
    positions = {}
    for road in (one, other):
        for at in range(1, len(road)):
            positions.setdefault(road[at:], most + 1 + len(positions))
    return positions


def _onward(units, road, positions, most, letter):
    """For each position on a road the one behind a letter, STOPPED if the number stops ahead of it."""
    count = units[road[0]][letter]
    behind = positions.get(_left(units, road[1:], letter), STOPPED)
    onward = [number - count if number >= count else behind for number in range(most + 1)]
    return onward + [positions.get(_left(units, rest, letter), STOPPED) for rest in positions]


def _left(units, rest, letter):
    """What is left of the rest of a road for a number that passes a letter behind the first unit, () if it stops."""
    for at, index in enumerate(rest):
        if units[index][letter] == 0:
            return rest[at:]
    return ()


def _pair_on(onward, here, there, most):
    """The positions on both roads behind a letter: both STOPPED where the places will be the same."""
    if here == APART:
        return here, there
    here, there = onward[0][here], onward[1][there]
    if here == there:
        # Behind the first units, what is left of the roads is the same.
        return (here, there) if here <= most else (STOPPED, STOPPED)
    return (APART, APART) if here == STOPPED or there == STOPPED else (here, there)


def drift(kind, units, road, most):
    """The greatest drift along the road of a number up to most in a word of the kind, None if there is none."""
    _, rows, _ = trimmed(kind)
    unit = units[road[0]]
    steps = [[(target, more) for target, more in zip(row, unit) if target is not None] for row in rows]
    counts = least_counts(steps, [0])
    begins = [letter for letter, more in enumerate(unit) if more > 0]
    # Items (state, what is left of the road) with the number of letters that were passed.
    waiting = []
    for state, count in enumerate(counts):
        if count is not None and count <= most:
            # A number that tells the place of this state stops at it, if the next letter counts something.
            waiting.extend(_passing(rows[state], units, road[1:], begins, 1))
    passed = {}
    at = 0
    while at < len(waiting):
        item, many = waiting[at]
        if many > passed.get(item, 0):
            # More letters than there are items: the way leads to an item again.
            if many > len(rows) * len(road):
                return None
            passed[item] = many
            state, rest = item
            waiting.extend(_passing(rows[state], units, rest, list(range(len(unit))), many + 1))
        at += 1
    return max(passed.values(), default=0)


def _passing(row, units, rest, letters, many):
    """Pairs of an item and a number of letters, for the letters of a row that are passed with this rest of a road."""
    found = []
    for letter in letters:
        left = _left(units, rest, letter)
        if row[letter] is not None and left != ():
            found.append(((row[letter], left), many))
    return found
