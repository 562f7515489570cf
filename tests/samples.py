"""Kinds, words and broken values for the tests, and plain ways to tell what is expected of them."""

import inspect
import time
from itertools import permutations, product

# The kinds, each with a regular expression for its words.
KINDS = {
    "every of one": ((1, ((0,),), (True,)), "a*"),
    "every of four": ((4, ((0, 0, 0, 0),), (True,)), "[abcd]*"),
    "turns": ((2, ((1, None), (None, 0)), (True, False)), "(ab)*"),
    "no bb": ((2, ((0, 1), (0, 2), (None, 2)), (True, True, False)), "(a|ba)*b?"),
    "c at the end alone": ((3, ((0, 0, 1), (None, None, None)), (True, True)), "[ab]*c?"),
    "d once": ((4, ((0, 0, 0, 1), (1, 1, 1, None)), (False, True)), "[abc]*d[abc]*"),
    "sevens": ((1, ((1,), (2,), (3,), (4,), (5,), (6,), (7,), (0,)), (False,) * 7 + (True,)), "a{7}(a{8})*"),
    "one word": ((2, ((None, 1), (2, None), (None, None)), (False, False, True)), "ba"),
    "the empty word": ((1, ((None,),), (True,)), ""),
    "the empty word, and a way to no end": ((2, ((1, 1), (1, None)), (True, False)), ""),
    "no word": ((2, ((0, 0),), (False,)), "(?!)"),
    "no word, an end not come to": ((2, ((0, 0), (1, 1)), (False, True)), "(?!)"),
}


# Kinds with few words of each length, so that a plain look at all words can go far.
THIN = {
    "a": (1, ((0,),), (True,)),
    "a, to the end": (1, ((1,), (2,), (0,)), (False, False, True)),
    "turns": (2, ((1, None), (None, 0)), (True, False)),
    "a, then b": (2, ((0, 1), (None, 1)), (True, True)),
    "b, then a": (2, ((1, 0), (1, None)), (True, True)),
    "b once": (2, ((0, 1), (1, None)), (False, True)),
    "ab, then c": (3, ((1, None, 2), (None, 0, None), (None, None, 2)), (True, False, True)),
    "aab, then a": (2, ((1, None), (2, None), (None, 3), (4, None), (4, None)), (False, False, True, True, True)),
    "a, b once, c, d at the end": (4, ((0, 1, None, None), (None, None, 1, 2), (None,) * 4), (True, False, True)),
    "c in fours": (3, ((None, None, 1), (None, None, 2), (None, None, 3), (4, None, 0), (None, 4, None)),
                   (True, False, False, False, True)),
}


def line_of(word):
    """The kind of this one word."""
    rows = tuple(tuple(at + 1 if letter == name else None for name in "abcd") for at, letter in enumerate(word))
    return 4, rows + ((None,) * 4,), (False,) * len(word) + (True,)


def words_to(letters, length):
    """All words of so many letters up to a length, in the order of words."""
    for many in range(length + 1):
        for signs in product("abcd"[:letters], repeat=many):
            yield "".join(signs)


def words_of(kind, length):
    """All words of the kind up to a length, in the order of words."""
    _, rows, ends = kind
    level = [("", 0)]
    for _ in range(length + 1):
        yield from (word for word, state in level if ends[state])
        level = [(word + "abcd"[at], item) for word, state in level for at, item in enumerate(rows[state])
                 if item is not None]


def counted(form, word):
    """The worth of a word, letter by letter."""
    return sum(form["abcd".index(letter)] for letter in word)


def is_word_of(kind, word):
    """Whether a word is of the kind, read letter by letter."""
    state = 0
    for letter in word:
        state = kind[1][state]["abcd".index(letter)]
        if state is None:
            return False
    return kind[2][state]


def small_kinds(letters, states):
    """All kinds of so many letters and states."""
    rows = list(product([None, *range(states)], repeat=letters))
    for told in product(rows, repeat=states):
        for ends in product((False, True), repeat=states):
            yield letters, told, ends


def random_kind(source, letters, states):
    """A kind whose rows are thin enough that some states are not used."""
    rows = [[source.choice([None, None, *range(states)]) for _ in range(letters)] for _ in range(states)]
    return letters, tuple(map(tuple, rows)), tuple(source.random() < 0.3 for _ in range(states))


def reordered(kind, places):
    """The kind with state k at places[k]."""
    letters, rows, ends = kind
    order = sorted(range(len(rows)), key=lambda state: places[state])
    moved = [tuple(None if item is None else places[item] for item in rows[state]) for state in order]
    return letters, tuple(moved), tuple(ends[state] for state in order)


def orders(states):
    """All orders of so many states that keep the first one."""
    return [(0, *rest) for rest in permutations(range(1, states))]


def random_form(source, letters, low, high):
    return tuple(source.randint(low, high) for _ in range(letters))


def with_idle_states(kind):
    """The kind with two more states that are not used, each with a ring of all letters.

    No word comes to the first of them; from the second one, to which words come, no word goes on to an end.
    """
    letters, rows, ends = kind
    many = len(rows)
    rows = tuple(tuple(many + 1 if item is None else item for item in row) for row in rows)
    return letters, rows + ((many,) * letters, (many + 1,) * letters), ends + (True, False)


def sorts(value):
    """The sorts of a value and of its parts, so that True is told from 1, and tuples from what is equal to them."""
    if isinstance(value, (tuple, list)):
        return type(value), [sorts(part) for part in value]
    return type(value)


def check_ring(test, kind, told, is_right, grows):
    """Checks ("ring", begin, round, end): words with any number of rounds are right, and what grows tells grows."""
    test.assertEqual(sorts(told), (tuple, [str] * 4), (kind, told))
    begin, circle, end = told[1:]
    words = [begin + circle * many + end for many in range(7)]
    test.assertTrue(all(is_word_of(kind, word) and is_right(word) for word in words), (kind, told))
    sizes = [grows(word) for word in words]
    test.assertTrue(all(one < other for one, other in zip(sizes, sizes[1:])), (kind, told))


def check_interface(test, module, functions):
    """Checks that a module defines these functions itself, each with these names of arguments."""
    for name, names in functions.items():
        made = getattr(module, name)
        test.assertTrue(inspect.isfunction(made), name)
        test.assertEqual((made.__name__, made.__module__), (name, module.__name__))
        test.assertEqual(list(inspect.signature(made).parameters), names, name)


def timed(function, *arguments):
    """The result of a call, which must be there in some seconds, even on a slow machine."""
    begin = time.process_time()
    result = function(*arguments)
    if time.process_time() - begin > 8:
        raise AssertionError(f"{function.__name__} takes too long: {arguments}")
    return result


def is_number(value, least, most):
    """Whether a value is an integer from least to most."""
    return type(value) is int and least <= value <= most


def random_units(source, letters, top):
    """One or two units for so many letters."""
    return tuple(random_form(source, letters, 0, top) for _ in range(source.randint(1, 2)))


def random_cut(source, units, most):
    letters = "abcd"[:len(units[0])]
    share = source.choice([0, 0.3, 0.6, 1])
    clings = "".join(letter for letter in letters if source.random() < share)
    return source.randrange(len(units)), source.randint(0, most), clings


def borders(cut, word):
    """The places of a word that are borders for the cut."""
    return [at for at in range(len(word) + 1) if at in (0, len(word)) or word[at] not in cut[2]]


def plain_left(units, cuts, word):
    """What the cuts leave, by a look at all borders."""
    for cut in cuts:
        unit, most, _ = cut
        word = word[:max(at for at in borders(cut, word) if counted(units[unit], word[:at]) <= most)]
    return word


def plain_parts(units, cut, word):
    """What parts tells, by plain_left."""
    found = []
    while word:
        found.append(plain_left(units, (cut,), word))
        if not found[-1]:
            return None
        word = word[len(found[-1]):]
    return tuple(found)


def replacements():
    long = tuple(range(9))
    return [None, True, False, 0, 1, 2, 3, 4, 5, 7, 8, 9, -1, 10 ** 59, -10 ** 59, "", "a", "0", "None", "kind",
            (), (0,), (1,), (None,), (True,), (False,), ((0,),), ((None,),), (((0,),),), long, long[:8],
            ((0,),) * 8, ((0,),) * 9, (True,) * 9, [], [0], [None], [True], [(0,)], [[0]], {}, {0: 0}, {"a": []}]


def broken(value):
    """The value with one part, at any depth, replaced, left out, there twice, or as another sort of the same."""
    yield from replacements()
    if isinstance(value, bool):
        yield int(value)
    elif isinstance(value, int):
        yield bool(value)
        yield str(value)
        yield -1 - value
    if isinstance(value, tuple):
        yield list(value)
        yield dict(enumerate(value))
        yield value[::-1]
        for at, part in enumerate(value):
            yield value[:at] + value[at + 1:]
            yield value[:at] + (part, part) + value[at + 1:]
            for other in broken(part):
                yield value[:at] + (other,) + value[at + 1:]
