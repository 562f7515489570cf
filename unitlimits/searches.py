"""Searches for the first word, in the order of words, that leads somewhere."""

from unitlimits.words import LETTERS


def first_word(letters, begins, after, is_end):
    """The first word that leads from one of begins to an end, or None.

    after(node, letter) is the list of the nodes that a letter leads to. Each node is gone on from once, for the
    first word that leads to it; after is asked in the order of words, so that it may leave out nodes, too, in the
    place of which an earlier word has led to one that is as good.
    """
    seen = {node: True for node in begins}
    # For each word the nodes that no earlier one leads to, the place of the word without its last letter, and this.
    found = [(begins, None, None)]
    at = 0
    while at < len(found):
        nodes = found[at][0]
        if any([is_end(node) for node in nodes]):
            return _word(found, at)
        for letter in range(letters):
            targets = []
            for node in nodes:
                for target in after(node, letter):
                    if target not in seen:
                        seen[target] = True
                        targets.append(target)
            if targets:
                found.append((targets, at, letter))
        at += 1
    return None


def _word(found, at):
    """The word at a place of what was found."""
    letters = []
    while found[at][1] is not None:
        _, at, letter = found[at]
        letters.append(LETTERS[letter])
    return "".join(letters[::-1])


def first_way(rows, begin, goals):
    """The first word that rows like those of a kind read from the state begin on to one whose goal is True."""
    if goals[begin]:
        return ""
    seen = {begin: True}
    states = [begin]
    came = [None]
    at = 0
    while at < len(states):
        for letter, target in enumerate(rows[states[at]]):
            if target is not None and target not in seen:
                if goals[target]:
                    return word_to(came, at) + LETTERS[letter]
                seen[target] = True
                states.append(target)
                came.append((at, letter))
        at += 1
    return None


def word_to(came, at):
    """The word by which a search came to a place, by pairs for each place: the one ahead of it, and the letter."""
    letters = []
    while came[at] is not None:
        at, letter = came[at]
        letters.append(LETTERS[letter])
    return "".join(letters[::-1])


def earlier(one, other):
    """The first of two words, each of which may be None."""
    if one is None or other is None:
        return other if one is None else one
    if len(one) != len(other):
        return one if len(one) < len(other) else other
    return min(one, other)
