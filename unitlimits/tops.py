"""The greatest that words of a kind can gain, however many states the kind has.

gain(state, letter) tells what the step of a letter from a state gains; a word gains what its steps gain together. All
kinds here are trimmed: without steps that no word takes, and without ends that no word comes to.
"""

from unitlimits.searches import first_way
from unitlimits.words import LETTERS


def greatest_gain(kind, gain):
    """("none",), ("most", number, word) or ("ring", begin, round, end), as greatest tells them of a form."""
    _, rows, ends = kind
    tops, ring = highest(kind, gain)
    if ring is not None:
        state, circle = ring
        here = [place == state for place in range(len(rows))]
        return "ring", first_way(rows, 0, here), circle, first_way(rows, state, ends)
    if tops[0] is None:
        return ("none",)
    return "most", tops[0], _first_top(kind, gain, tops)


def _first_top(kind, gain, tops):
    """The first word that gains as much as the top of state 0."""
    _, rows, ends = kind
    steps = []
    for state, row in enumerate(rows):
        # A step is on a way that gains the most just if it loses nothing against the top.
        steps.append([item if item is not None and gain(state, letter) + tops[item] == tops[state] else None
                      for letter, item in enumerate(row)])
    return first_way(steps, 0, [end and top == 0 for end, top in zip(ends, tops)])


def highest(kind, gain):
    """For each state its top, the most that a way from it to an end gains, and None for the ring.

    The top of a state that is not used is None. If there are no tops: None, and a ring, which is a state and the
    letters of a way from it back to it that gains more than 0.
    """
    _, rows, ends = kind
    tops = [0 if end else None for end in ends]
    for component in components(rows):
        circle = _settle(component, rows, gain, tops)
        if circle is not None:
            return None, circle
    return tops, None


def components(rows):
    """Lists of the states that lead to one another, each list behind those to which its states lead."""
    back = [[] for _ in rows]
    for state, row in enumerate(rows):
        for target in row:
            if target is not None:
                back[target].append(state)
    seen = [False] * len(rows)
    for root in _finished(back)[::-1]:
        component = []
        waiting = [root]
        while waiting:
            state = waiting.pop()
            if state is not None and not seen[state]:
                seen[state] = True
                component.append(state)
                waiting.extend(rows[state])
        if component:
            yield component


def _finished(steps):
    """All states, each behind those to which it leads, rings aside: as a walk in depth is done with them."""
    order = []
    seen = [False] * len(steps)
    # Below 0 stands a state whose steps are all walked.
    waiting = list(range(len(steps)))
    while waiting:
        state = waiting.pop()
        if state < 0:
            order.append(-1 - state)
        elif not seen[state]:
            seen[state] = True
            waiting.append(-1 - state)
            for target in steps[state]:
                if not seen[target]:
                    waiting.append(target)
    return order


def _settle(component, rows, gain, tops):
    """Sets the tops of a component, behind which all are set; returns a ring where they grow for ever, or None."""
    inside = {state: True for state in component}
    steps = []
    for state in component:
        for letter, target in enumerate(rows[state]):
            if target is None:
                continue
            if target in inside:
                steps.append((state, letter, target, gain(state, letter)))
            else:
                _lift(tops, state, gain(state, letter) + tops[target])
    if any([more != 0 for _, _, _, more in steps]):
        return _settle_steps(steps, tops)
    # All at once, as to go step by step through a great component takes too long.
    top = max([tops[state] for state in component if tops[state] is not None], default=None)
    for state in component:
        tops[state] = top
    return None


def _lift(tops, state, top):
    """Whether a top is greater than the one of a state, which it then becomes."""
    if tops[state] is not None and tops[state] >= top:
        return False
    tops[state] = top
    return True


def _settle_steps(steps, tops):
    """Lifts tops along the steps of a component till none is lifted; or returns a ring if there is no end to this."""
    following = {}
    # The round in which a top was lifted last: a step lifts nothing if the top of its target has stayed for a round.
    lifted_in = {state: 0 for state, _, _, _ in steps}
    lifted = lifted_in
    at = 0
    while lifted:
        at += 1
        lifted = {}
        for state, letter, target, gain in steps:
            if lifted_in[target] >= at - 1 and tops[target] is not None and _lift(tops, state, gain + tops[target]):
                following[state] = (letter, target)
                lifted_in[state] = at
                lifted[state] = True
        # Tops that are lifted by one another all around have gained on the way.
        if _leads_round(following, lifted):
            return _ring(following)
    return None


def _leads_round(following, begins):
    """Whether following leads on for ever from one of begins."""
    for begin in begins:
        state = begin
        for _ in following:
            state = following[state][1]
            if state not in following:
                break
        else:
            return True
    return False


def _ring(following):
    """A state from which following leads back to it, with the letters on the way; or None."""
    walks = {}
    for begin in following:
        state = begin
        while state in following and state not in walks:
            walks[state] = begin
            state = following[state][1]
        if walks.get(state) == begin:
            return state, _circle(following, state)
    return None


def _circle(following, begin):
    """The letters by which following leads from a state back to it."""
    letter, state = following[begin]
    letters = [LETTERS[letter]]
    while state != begin:
        letter, state = following[state]
        letters.append(LETTERS[letter])
    return "".join(letters)
