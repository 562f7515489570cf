"""Places: where rows of cuts cut a word, as far as this is known while the word is read.

What is known of a row is a tuple of places. The last one is where the row cuts if no cut gets over its number any more.
Ahead of it stands, for each cut that may still matter, where the row cuts if this cut is the next one to get over its
number. Behind a cut that is over its number none matters any more in the row, unless it was over its number earlier: so
when a cut gets over its number, what stands behind its place in the tuple is taken away.

A place is told by a number, which says as much of the place as is asked. That of the end of the word is END, wherever
the word will end. What is known of two rows is (one, other, begun); borders matter only if begun is True. Where it is
known that the word is looked for, however it goes on, True stands in the place of this, and False where it never is.
"""

END = 1


class Unlike:
    """Asks for words that two rows cut at unlike places.

    Two places have the same number above END just if they are the same, and stand in one row and in the other; all
    other ones have 0.
    """

    def __init__(self, one, other):
        self.one = one
        self.other = other
        # All borders are at place 0 till the second letter is read.
        self.begin = self.judged(((END + 1,) * len(one) + (END,), (END + 1,) * len(other) + (END,), False))

    def moved(self, known, letter):
        """What is known behind a letter with which no cut gets over its number."""
        one, other, begun = known
        if begun:
            # A number that no place has yet.
            here = END + 1 + len(one) + len(other)
            one, other = _moved(self.one, one, letter, here), _moved(self.other, other, letter, here)
        return self.judged((one, other, True))

    def judged(self, known):
        """What is known, with the least numbers for places."""
        one, other, begun = known
        shared = {}
        for place in one:
            if place > END and place in other and place not in shared:
                shared[place] = END + 1 + len(shared)
        one, other = _named(one, shared), _named(other, shared)
        if not shared and not one[-1] == other[-1] == END:
            return True
        if len(shared) == 1 and min(one + other) > END:
            return False
        if one == other and min(one) > 0 and self.one[:len(one) - 1] == self.other[:len(one) - 1]:
            return False
        return one, other, begun

    def is_goal(self, known):
        """Whether the word is looked for, if it ends here."""
        one, other, _ = known
        return one[-1] != other[-1] or one[-1] == 0


def _moved(cuts, places, letter, here):
    """Places of a row behind one more letter, where the number of the place ahead of it is here."""
    last = places[-1]
    border = here if last == END else last
    return tuple([place if letter in cut[2] else border for cut, place in zip(cuts, places[:-1])]) + (last,)


def _named(places, shared):
    """Places with the numbers of the shared ones."""
    return tuple([place if place == END else shared.get(place, 0) for place in places])


class Beyond:
    """Asks for words of which a row of cuts leaves a word that does not keep a limit, a pair (index, most).

    The limit is the only cut of the other row. Once it is over its number, END is the number of all places from there
    on, and 0 that of the others.
    """

    def __init__(self, cuts, limit):
        index, most = limit
        self.one = cuts
        self.other = ((index, most, ""),)
        self.begin = ((0,) * len(cuts) + (END,), (0, END), False)

    def moved(self, known, letter):
        """What is known behind a letter with which no cut gets over its number."""
        one, other, begun = known
        return self.judged((_moved(self.one, one, letter, END), other, True)) if begun else known

    def judged(self, known):
        """What is known once some cut is over its number."""
        one, other, _ = known
        if min(one) == END or max(one) == 0:
            return min(one) == END
        return one, other, True

    def is_goal(self, known):
        """Whether the word is looked for, if it ends here."""
        one, _, begun = known
        return begun and one[-1] == END
