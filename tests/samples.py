"""Kinds, words and broken values for the tests, and plain ways to tell what is expected of them."""

from itertools import permutations, product

# The kinds, each with a regular expression for its words.
KINDS = {
    "every of one": ((1, ((0,),), (True,)), "a*"),
    "every of four": ((4, ((0, 0, 0, 0),), (True,)), "[abcd]*"),
    "turns": ((2, ((1, None), (None, 0)), (True, False)), "(ab)*"),
    "no bb": ((2, ((0, 1), (0, 2), (None, 2)), (True, True, False)), "(a|ba)*b?"),
    "c at the end alone": ((3, ((0, 0, 1), (None, None, None)), (True, True)), "[ab]*c?"),
    "d once": ((4, ((0, 0, 0, 1), (1, 1, 1, None)), (False, True)), "[abc]*d[abc]*"),
    "sevens": ((1, ((1,), (2,), (3,), (4,), (5,), (6,), (7,), (0,)), (False,) * 7 + (True,)), "a{7}(a{8})*"),
    "one word": ((2, ((None, 1), (2, None), (None, None)), (False, False, True)), "ba"),
    "the empty word": ((1, ((None,),), (True,)), ""),
    "the empty word, and a way to no end": ((2, ((1, 1), (1, None)), (True, False)), ""),
    "no word": ((2, ((0, 0),), (False,)), "(?!)"),
    "no word, an end not come to": ((2, ((0, 0), (1, 1)), (False, True)), "(?!)"),
}


def words_to(letters, length):
    """All words of so many letters up to a length, in the order of words."""
    for many in range(length + 1):
        for signs in product("abcd"[:letters], repeat=many):
            yield "".join(signs)


def small_kinds(letters, states):
    """All kinds of so many letters and states."""
    rows = list(product([None, *range(states)], repeat=letters))
    for told in product(rows, repeat=states):
        for ends in product((False, True), repeat=states):
            yield letters, told, ends


def random_kind(source, letters, states):
    """A kind whose rows are thin enough that some states are not used."""
    rows = [[source.choice([None, None, *range(states)]) for _ in range(letters)] for _ in range(states)]
    return letters, tuple(map(tuple, rows)), tuple(source.random() < 0.3 for _ in range(states))


def reordered(kind, places):
    """The kind with state k at places[k]."""
    letters, rows, ends = kind
    order = sorted(range(len(rows)), key=lambda state: places[state])
    moved = [tuple(None if item is None else places[item] for item in rows[state]) for state in order]
    return letters, tuple(moved), tuple(ends[state] for state in order)


def orders(states):
    """All orders of so many states that keep the first one."""
    return [(0, *rest) for rest in permutations(range(1, states))]


def replacements():
    long = tuple(range(9))
    return [None, True, False, 0, 1, 2, 3, 4, 5, 7, 8, 9, -1, 10 ** 59, -10 ** 59, "", "a", "0", "None", "kind",
            (), (0,), (1,), (None,), (True,), (False,), ((0,),), ((None,),), (((0,),),), long, long[:8],
            ((0,),) * 8, ((0,),) * 9, (True,) * 9, [], [0], [None], [True], [(0,)], [[0]], {}, {0: 0}, {"a": []}]


def broken(value):
    """The value with one part, at any depth, replaced, left out, there twice, or as another sort of the same."""
    yield from replacements()
    if isinstance(value, bool):
        yield int(value)
    elif isinstance(value, int):
        yield bool(value)
        yield str(value)
        yield -1 - value
    if isinstance(value, tuple):
        yield list(value)
        yield dict(enumerate(value))
        yield value[::-1]
        for at, part in enumerate(value):
            yield value[:at] + value[at + 1:]
            yield value[:at] + (part, part) + value[at + 1:]
            for other in broken(part):
                yield value[:at] + (other,) + value[at + 1:]
