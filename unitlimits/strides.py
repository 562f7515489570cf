"""Strides: ways of letters that count nothing in a unit, and one letter behind them that does, taken at once.

A letter has a weight, and the best way is the one with the greatest sum of weights, and of several such ones the
first. The weights are such that no way from a state back to it that counts nothing has a sum of 0 or more, and that
ways with equal sums are equally long.
"""

from unitlimits.words import LETTERS

# Less than every sum of weights that a word has.
NEVER = -1000000000000000000


def strides(rows, unit, weights, begins):
    """For begins, and each state in which a stride ends, the best ways that count nothing, and the best strides.

    The ways are a dict of pairs (sum, word) by the states in which they end; the strides are a list, in order, of
    items (word, count, sum, state in which it ends).
    """
    found = {}
    waiting = list(begins)
    while waiting:
        state = waiting.pop()
        if state not in found:
            ways = _ways(rows, unit, weights, state)
            best = _strides(rows, unit, weights, ways)
            found[state] = (ways, best)
            waiting.extend([target for _, _, _, target in best])
    return found


def _ways(rows, unit, weights, begin):
    """The best ways that count nothing from a state, by the states in which they end."""
    ways = {begin: (0, "")}
    waiting = [begin]
    at = 0
    while at < len(waiting):
        total, word = ways[waiting[at]]
        for letter, target in enumerate(rows[waiting[at]]):
            if target is not None and unit[letter] == 0:
                if _take(ways, target, total + weights[letter], word + LETTERS[letter]):
                    waiting.append(target)
        at += 1
    return ways


def _take(ways, key, total, word):
    """Whether a way is better than the one that stands at a key, or none does; then it stands there."""
    if key in ways:
        best, first = ways[key]
        if total < best or total == best and word >= first:
            return False
    ways[key] = (total, word)
    return True


def _strides(rows, unit, weights, ways):
    """The best strides that begin with these ways, one for each state in which they end and each count."""
    best = {}
    for state, (total, word) in ways.items():
        for letter, target in enumerate(rows[state]):
            if target is not None and unit[letter] > 0:
                _take(best, (target, unit[letter]), total + weights[letter], word + LETTERS[letter])
    return sorted([(word, count, total, target) for (target, count), (total, word) in best.items()])


def last_ways(found, ends):
    """For each state in which strides begin the best way that counts nothing to an end: a pair (sum, word)."""
    best = no_ways(found)
    for state, (ways, _) in found.items():
        for target, (total, word) in ways.items():
            if ends[target]:
                _take(best, state, total, word)
    return best


def no_ways(found):
    """What last_ways returns where there are none."""
    return {state: (NEVER, "") for state in found}


class Best:
    """The best words that go on from each state in which strides begin, for all counts up to a greatest one."""

    def __init__(self, found, most, within, beyond):
        """within tells the ways with which words end that count at most so much, beyond those of the others."""
        self.found = found
        self.within = within
        self.beyond = beyond
        self.ahead = max([count for _, best in found.values() for _, count, _, _ in best], default=0)
        # By what may still be counted, from as far below 0 on as one letter leads.
        self.sums = {state: [beyond[state][0]] * self.ahead for state in found}
        told = []
        for state, (_, best) in found.items():
            steps = [(count, total, self.sums[target]) for _, count, total, target in best]
            told.append((self.sums[state], within[state][0], steps))
        for at in range(self.ahead, self.ahead + most + 1):
            for own, last, onward in told:
                highest = last
                for less, more, others in onward:
                    if others[at - less] + more > highest:
                        highest = others[at - less] + more
                own.append(highest)

    def best_sum(self, state, room):
        """The sum of the best word that goes on where so much may still be counted, about NEVER if there is none."""
        return self.sums[state][self.ahead + room]

    def best_word(self, state, room):
        """The best word that goes on where so much may still be counted, which there is."""
        words = []
        while room >= 0:
            total = self.sums[state][self.ahead + room]
            last, word = self.within[state]
            for name, count, more, target in self.found[state][1]:
                # Of words with equal sums none begins another one, so the first stride begins the first word.
                if self.sums[target][self.ahead + room - count] + more == total and (last < total or name < word):
                    words.append(name)
                    state, room = target, room - count
                    break
            else:
                return "".join(words) + word
        return "".join(words) + self.beyond[state][1]
