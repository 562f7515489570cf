"""The first word for which rows of cuts do what is looked for: a search through what is known while words are read."""

from unitlimits.machines import trimmed
from unitlimits.searches import word_to
from unitlimits.words import LETTERS


def first_read(kind, units, asked, loose):
    """The first word of the kind that is looked for, or None.

    asked tells what is known of words, as the classes of places do. loose is None, or the index of a unit in which
    less is as good: a word is looked for if one is that counts more in this unit, and else is alike.
    """
    if asked.begin is False:
        return None
    letters, rows, ends = trimmed(kind)
    book = Book(letters, units, asked)
    less = 0 if loose is None else book.field << loose * book.width
    exact = -1 - less
    guard, goals, masks = book.guard, book.goals, book.masks
    nodes = [(book.number(asked.begin), 0, 0)]
    if ends[0] and goals[0]:
        return ""
    came = [None]
    best = {}
    at = 0
    while at < len(nodes):
        number, state, counts = nodes[at]
        moves, adds, spare = book.page(number)
        for letter, target in enumerate(rows[state]):
            onward, total = moves[letter], counts + adds[letter]
            if target is None or onward is None:
                continue
            if (total + spare) & guard:
                onward = book.over(onward, total)
                if onward is None:
                    continue
            total = total & masks[onward]
            key, rest = (onward, target, total & exact), total & less
            if best.get(key, rest + 1) > rest:
                if goals[onward] and ends[target]:
                    return word_to(came, at) + LETTERS[letter]
                best[key] = rest
                nodes.append((onward, target, total))
                came.append((at, letter))
        at += 1
    return None


class Book:
    """What can be known of words, by numbers in the order in which it is come to, with what follows from it.

    The counts in all units are kept in one integer, a field of bits for each. The last bit of a field is the guard: it
    shows that a count is over the number of a cut, if what the numbers spare is added.
    """

    def __init__(self, letters, units, asked):
        self.asked = asked
        self.units = units
        self.letters = letters
        sizes = [most for _, most, _ in asked.one + asked.other] + [max(unit) for unit in units]
        self.bits = max(sizes).bit_length()
        self.width = self.bits + 1
        self.field = (1 << self.width) - 1
        self.guard = sum([1 << at * self.width + self.bits for at in range(len(units))])
        self.known = []
        self.numbers = {}
        self.goals = []
        self.masks = []
        self.pages = []
        self.behind = {}

    def number(self, known):
        """The number of what is known, None for False."""
        if known is False:
            return None
        if known not in self.numbers:
            self.numbers[known] = len(self.known)
            self.known.append(known)
            self.goals.append(known is True or self.asked.is_goal(known))
            self.masks.append(sum([self.field << unit * self.width for unit in self.running(known)]))
            self.pages.append(None)
        return self.numbers[known]

    def running(self, known):
        """The units of the cuts that still matter, each with the least number of such a cut."""
        least = {}
        if known is not True:
            one, other, _ = known
            for unit, most, _ in self.asked.one[:len(one) - 1] + self.asked.other[:len(other) - 1]:
                least[unit] = min(most, least.get(unit, most))
        return least

    def page(self, number):
        """What each letter leads to if no cut gets over its number, what it counts, and what the numbers spare."""
        if self.pages[number] is None:
            known = self.known[number]
            least = self.running(known)
            moves = [number if known is True else self.number(self.asked.moved(known, LETTERS[letter]))
                     for letter in range(self.letters)]
            adds = [sum([self.units[unit][letter] << unit * self.width for unit in least])
                    for letter in range(self.letters)]
            spare = sum([(1 << self.bits) - 1 - least[unit] << unit * self.width for unit in least])
            self.pages[number] = (moves, adds, spare)
        return self.pages[number]

    def over(self, number, counts):
        """The number of what is known where some cut gets over its number with the counts, None for False."""
        known = self.known[number]
        if known is True:
            return number
        one, other, begun = known
        first = self.first_over(self.asked.one[:len(one) - 1], counts)
        second = self.first_over(self.asked.other[:len(other) - 1], counts)
        if (number, first, second) not in self.behind:
            less = (one[:first + 1], other[:second + 1], begun)
            self.behind[number, first, second] = self.number(self.asked.judged(less))
        return self.behind[number, first, second]

    def first_over(self, cuts, counts):
        """The index of the first cut that is over its number, or how many there are."""
        for at, (unit, most, _) in enumerate(cuts):
            if counts >> unit * self.width & self.field > most:
                return at
        return len(cuts)
