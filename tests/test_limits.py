import random
import unittest

from samples import (KINDS, THIN, check_interface, check_ring, counted, is_word_of, random_form, random_kind,
                     small_kinds, sorts, timed, with_idle_states, words_of)
from unitlimits import limits
from unitlimits.forms import greatest
from unitlimits.limits import breach, most_kept

EVERY = (3, ((0, 0, 0),), (True,))
TURNS = (2, ((1, None), (None, 0)), (True, False))
ONE = (1, ((0,),), (True,))


def keeps(limit, word):
    return counted(limit[0], word) <= limit[1]


def plain_breach(kind, one, other):
    """The first word that keeps one, but not other: by all triples of a state and both counts, up to one too many."""
    _, rows, ends = kind
    level = {(0, 0, 0): ""}
    seen = set(level)
    while level:
        found = [word for (state, _, more), word in level.items() if ends[state] and more > other[1]]
        if found:
            return min(found)
        after = {}
        for (state, first, more), word in level.items():
            for at, target in enumerate(rows[state]):
                node = (target, first + one[0][at], min(more + other[0][at], other[1] + 1))
                if target is not None and node[1] <= one[1] and node not in seen:
                    after[node] = min(word + "abcd"[at], after.get(node, "~"))
        seen.update(after)
        level = after
    return None


def plain_most_kept(kind, limit, form):
    """What most_kept tells, with only "ring" for a ring: by the greatest sums on the ways of each length to each pair
    of a state and a count. A ring shows itself where a way of as many steps as there are pairs is still better than
    all shorter ones.
    """
    _, rows, ends = kind
    unit, most = limit
    pairs = {(0, 0)}
    waiting = [(0, 0)]
    steps = []
    while waiting:
        state, count = waiting.pop()
        for at, target in enumerate(rows[state]):
            node = (target, count + unit[at])
            if target is not None and node[1] <= most:
                steps.append(((state, count), node, at))
                if node not in pairs:
                    pairs.add(node)
                    waiting.append(node)
    to_end = {pair for pair in pairs if ends[pair[0]]}
    while True:
        more = {one for one, node, _ in steps if node in to_end} - to_end
        if not more:
            break
        to_end |= more
    if (0, 0) not in to_end:
        return ("none",)
    steps = [(one, node, at) for one, node, at in steps if node in to_end]
    level = {(0, 0): (0, "")}
    best = {}
    found = []
    for length in range(len(to_end) + 1):
        found.extend((-total, len(word), word) for (state, _), (total, word) in level.items() if ends[state])
        if length == len(to_end):
            if any(total > best[pair] for pair, (total, _) in level.items()):
                return "ring"
            break
        for pair, (total, _) in level.items():
            best[pair] = max(total, best.get(pair, total))
        after = {}
        for one, node, at in steps:
            if one in level:
                option = (level[one][0] + form[at], level[one][1] + "abcd"[at])
                if node not in after or (-option[0], option[1]) < (-after[node][0], after[node][1]):
                    after[node] = option
        level = after
    lost, _, word = min(found)
    return "most", -lost, word


class ExampleTest(unittest.TestCase):
    def test_point_7(self):
        every = (3, ((0, 0, 0),), (True,))
        signs, bytes_of, columns = (1, 1, 1), (1, 2, 3), (1, 1, 0)
        self.assertEqual([breach(every, (signs, 4), (bytes_of, 12)), breach(every, (signs, 4), (bytes_of, 11)),
                          breach(every, (bytes_of, 7), (signs, 6)), most_kept(every, (bytes_of, 7), columns),
                          most_kept(every, (signs, 2), bytes_of), most_kept(every, (columns, 1), bytes_of)[0]],
                         [None, "cccc", "aaaaaaa", ("most", 7, "aaaaaaa"), ("most", 6, "cc"), "ring"])


class InterfaceTest(unittest.TestCase):
    def test_names_and_arguments(self):
        check_interface(self, limits, {"breach": ["kind", "one", "other"], "most_kept": ["kind", "limit", "form"]})

    def test_arguments_by_name(self):
        self.assertEqual(breach(other=((1, 2, 3), 11), one=((1, 1, 1), 4), kind=EVERY), "cccc")
        self.assertEqual(most_kept(form=(1, 2, 3), limit=((1, 1, 1), 2), kind=EVERY), ("most", 6, "cc"))


class BreachTest(unittest.TestCase):
    def check(self, kind, one, other):
        told, word = breach(kind, one, other), plain_breach(kind, one, other)
        self.assertEqual((told, type(told)), (word, type(word)), (kind, one, other))
        return told

    def test_by_hand(self):
        for kind, one, other, word in (
                (EVERY, ((1, 1, 1), 0), ((1, 1, 1), 0), None), (EVERY, ((1, 1, 1), 0), ((0, 0, 0), 0), None),
                (EVERY, ((0, 0, 0), 0), ((0, 0, 0), 0), None), (EVERY, ((0, 0, 0), 0), ((0, 0, 1), 0), "c"),
                (EVERY, ((0, 0, 0), 0), ((0, 1, 9), 0), "b"), (EVERY, ((0, 0, 0), 200), ((0, 0, 1), 200), "c" * 201),
                (EVERY, ((1, 1, 1), 200), ((1, 1, 1), 199), "a" * 200),
                (EVERY, ((1, 1, 1), 200), ((1, 1, 1), 200), None),
                (EVERY, ((9, 9, 9), 200), ((9, 9, 9), 197), "a" * 22),
                (EVERY, ((9, 9, 9), 200), ((9, 9, 9), 198), None), (EVERY, ((9, 9, 9), 200), ((9, 9, 1), 198), None),
                (EVERY, ((1, 9, 9), 200), ((1, 0, 0), 199), "a" * 200),
                (EVERY, ((1, 0, 9), 8), ((1, 2, 3), 17), "b" * 9), (EVERY, ((1, 1, 9), 8), ((1, 2, 3), 15), "b" * 8),
                (TURNS, ((1, 0), 5), ((0, 1), 5), None), (TURNS, ((1, 0), 5), ((0, 1), 4), "ab" * 5),
                (TURNS, ((0, 0), 5), ((0, 1), 200), "ab" * 201), (TURNS, ((1, 0), 200), ((0, 1), 199), "ab" * 200),
                (TURNS, ((1, 0), 199), ((0, 1), 199), None), (TURNS, ((2, 1), 200), ((1, 2), 199), None),
                (TURNS, ((2, 1), 200), ((1, 2), 197), "ab" * 66), (TURNS, ((2, 1), 200), ((1, 2), 198), None)):
            self.assertEqual(breach(kind, one, other), word, (kind, one, other))

    def test_words_that_are_broken_far_along(self):
        ring = tuple((at + 1,) for at in range(7)) + ((0,),)
        for end in range(8):
            kind = (1, ring, tuple(at == end for at in range(8)))
            for most in (0, 7, 100, 200):
                word = breach(kind, ((0,), 0), ((1,), most))
                self.assertTrue(len(word) % 8 == end and most < len(word) <= most + 8)
        self.assertEqual(breach(ONE, ((0,), 0), ((1,), 200)), "a" * 201)
        self.assertEqual(breach(ONE, ((1,), 200), ((9,), 199)), "a" * 23)
        # One letter counts in the second unit, only behind a round of the others.
        rows = tuple((at + 1, None) for at in range(7)) + ((None, 0),)
        kind = (2, rows, (True,) + (False,) * 7)
        self.assertEqual(breach(kind, ((0, 0), 0), ((0, 1), 200)), "aaaaaaab" * 201)
        self.assertEqual(breach(kind, ((0, 1), 200), ((0, 1), 199)), "aaaaaaab" * 200)
        self.assertIsNone(breach(kind, ((0, 1), 200), ((0, 1), 200)))

    def test_the_first_word(self):
        # Not the one that breaks the other limit the most, and a shorter one ahead of all.
        self.assertEqual(breach(EVERY, ((1, 1, 1), 9), ((1, 2, 9), 1)), "b")
        self.assertEqual(breach(EVERY, ((1, 1, 1), 9), ((1, 2, 9), 2)), "c")
        self.assertEqual(breach(EVERY, ((1, 1, 9), 8), ((1, 2, 9), 2)), "ab")
        self.assertEqual(breach(EVERY, ((0, 1, 9), 8), ((1, 2, 9), 3)), "bb")
        self.assertEqual(breach(EVERY, ((0, 1, 9), 8), ((1, 2, 9), 4)), "abb")
        self.assertEqual(breach(EVERY, ((0, 1, 9), 1), ((1, 2, 9), 4)), "aaab")
        self.assertEqual(breach(EVERY, ((0, 1, 9), 0), ((1, 2, 9), 4)), "aaaaa")

    def test_small_kinds_against_all_words(self):
        for kind in small_kinds(2, 2):
            words = list(words_of(kind, 8))
            for one, other in ((((1, 1), 3), ((1, 2), 4)), (((1, 0), 1), ((1, 1), 2)), (((0, 2), 2), ((1, 1), 1)),
                               (((1, 2), 2), ((2, 1), 2)), (((0, 0), 0), ((0, 1), 0))):
                word = next((word for word in words if keeps(one, word) and not keeps(other, word)), None)
                self.assertEqual(breach(kind, one, other), word, (kind, one, other))

    def test_thin_kinds_against_all_words(self):
        source = random.Random(1)
        for kind in THIN.values():
            words = list(words_of(kind, 24))
            for _ in range(40):
                one = (random_form(source, kind[0], 0, 2), source.randint(0, 12))
                other = (random_form(source, kind[0], 0, 2), source.randint(0, 8))
                word = next((word for word in words if keeps(one, word) and not keeps(other, word)), None)
                told = self.check(kind, one, other)
                if word is not None or told is None:
                    self.assertEqual(told, word)
                else:
                    self.assertTrue(len(told) > 24 and keeps(one, told) and not keeps(other, told))

    def test_many_kinds(self):
        source = random.Random(2)
        told = {}
        for _ in range(700):
            kind = random_kind(source, source.randint(1, 4), source.randint(1, 8))
            top = source.choice([1, 2, 9])
            one = (random_form(source, kind[0], 0, top), source.randint(0, 30))
            other = (random_form(source, kind[0], 0, source.choice([1, top])), source.randint(0, 30))
            word = self.check(kind, one, other)
            self.assertEqual(breach(with_idle_states(kind), one, other), word)
            if word is not None:
                self.assertTrue(is_word_of(kind, word) and keeps(one, word) and not keeps(other, word))
            told[word is None] = told.get(word is None, 0) + 1
        self.assertGreater(min(told.values()), 100)

    def test_great_limits(self):
        source = random.Random(3)
        told = {}
        for _ in range(40):
            kind = random_kind(source, source.randint(2, 3), source.randint(1, 3))
            one = (random_form(source, kind[0], 0, 3), source.randint(60, 200))
            other = (random_form(source, kind[0], 0, 3), source.randint(60, 200))
            told[self.check(kind, one, other) is None] = True
        self.assertEqual(len(told), 2)

    def test_kinds_without_words(self):
        for name in ("no word", "no word, an end not come to", "the empty word"):
            kind, _ = KINDS[name]
            for most in (0, 200):
                self.assertIsNone(breach(kind, ((0,) * kind[0], most), ((9,) * kind[0], 0)))


class MostKeptTest(unittest.TestCase):
    def check(self, kind, limit, form):
        told, expected = most_kept(kind, limit, form), plain_most_kept(kind, limit, form)
        if expected == "ring":
            self.assertEqual(told[0], "ring", (kind, limit, form))
            check_ring(self, kind, told, lambda word: keeps(limit, word), lambda word: counted(form, word))
            self.assertGreater(counted(form, told[2]), 0)
            self.assertEqual(counted(limit[0], told[2]), 0)
        else:
            self.assertEqual((told, sorts(told)), (expected, sorts(expected)), (kind, limit, form))
        self.assertEqual(most_kept(kind, limit, form), told)
        return told[0]

    def test_by_hand(self):
        for kind, limit, form, told in (
                (EVERY, ((1, 2, 3), 0), (99, 99, 99), ("most", 0, "")),
                (EVERY, ((1, 2, 3), 200), (1, 2, 3), ("most", 200, "b" + "c" * 66)),
                (EVERY, ((1, 1, 1), 200), (-1, -1, -1), ("most", 0, "")),
                (EVERY, ((1, 1, 1), 200), (99, 98, -99), ("most", 19800, "a" * 200)),
                (EVERY, ((9, 9, 9), 200), (99, 98, -99), ("most", 2178, "a" * 22)),
                (EVERY, ((1, 0, 9), 7), (5, -1, 36), ("most", 35, "aaaaaaa")),
                (EVERY, ((1, 0, 9), 9), (5, 0, 46), ("most", 46, "c")),
                (TURNS, ((1, 0), 5), (0, 1), ("most", 5, "ab" * 5)),
                (TURNS, ((1, 1), 5), (0, 1), ("most", 2, "abab")),
                (TURNS, ((0, 9), 200), (1, 0), ("most", 22, "ab" * 22)),
                (TURNS, ((0, 0), 0), (1, -1), ("most", 0, "")),
                (KINDS["sevens"][0], ((1,), 6), (1,), ("none",)),
                (KINDS["sevens"][0], ((1,), 7), (1,), ("most", 7, "aaaaaaa")),
                (KINDS["sevens"][0], ((1,), 200), (-1,), ("most", -7, "aaaaaaa")),
                (KINDS["sevens"][0], ((1,), 200), (99,), ("most", 199 * 99, "a" * 199)),
                (KINDS["one word"][0], ((1, 2), 2), (1, 1), ("none",)),
                (KINDS["one word"][0], ((1, 2), 3), (1, 1), ("most", 2, "ba")),
                (KINDS["no word"][0], ((0, 0), 200), (1, 1), ("none",))):
            self.assertEqual(most_kept(kind, limit, form), told, (kind, limit, form))

    def test_rings(self):
        for kind, limit, form, name in (
                (EVERY, ((1, 1, 0), 1), (1, 2, 3), "ring"), (EVERY, ((1, 1, 0), 1), (1, 2, 0), "most"),
                (EVERY, ((1, 0, 0), 0), (-1, 1, -1), "ring"), (EVERY, ((0, 0, 0), 200), (-1, -1, 1), "ring"),
                (TURNS, ((0, 0), 0), (2, -1), "ring"), (TURNS, ((0, 1), 200), (99, 99), "most"),
                (KINDS["d once"][0], ((0, 0, 1, 1), 1), (1, -2, 0, 0), "ring"),
                (KINDS["d once"][0], ((0, 0, 1, 1), 0), (1, -2, 0, 0), "none"),
                (KINDS["d once"][0], ((1, 1, 0, 9), 8), (1, 1, 1, 1), "none"),
                (KINDS["d once"][0], ((1, 1, 0, 9), 9), (1, 1, 1, 1), "ring")):
            self.assertEqual(self.check(kind, limit, form), name, (kind, limit, form))

    def test_small_kinds(self):
        told = {}
        for kind in small_kinds(2, 2):
            for limit, form in ((((1, 1), 3), (1, -1)), (((1, 0), 1), (-1, 1)), (((0, 2), 3), (1, 1)),
                                (((0, 0), 0), (1, -1))):
                told[self.check(kind, limit, form)] = True
        self.assertEqual(len(told), 3)

    def test_small_kinds_against_all_words(self):
        for kind in small_kinds(2, 2):
            words = list(words_of(kind, 7))
            for limit, form in ((((1, 1), 3), (1, -1)), (((1, 2), 3), (-1, 1)), (((1, 1), 2), (-1, -1))):
                kept = [word for word in words if keeps(limit, word)]
                best = max([counted(form, word) for word in kept], default=None)
                expected = [("most", best, word) for word in kept if counted(form, word) == best] or [("none",)]
                self.assertEqual(most_kept(kind, limit, form), expected[0])

    def test_many_kinds(self):
        source = random.Random(4)
        told = {}
        for _ in range(700):
            kind = random_kind(source, source.randint(1, 4), source.randint(1, 8))
            limit = (random_form(source, kind[0], 0, source.choice([1, 2, 9])), source.randint(0, 9))
            low, high = source.choice([(-99, 99), (-2, 2), (-1, 0), (1, 9), (-9, 2)])
            form = random_form(source, kind[0], low, high)
            name = self.check(kind, limit, form)
            other = most_kept(with_idle_states(kind), limit, form)
            self.assertEqual(other[0], name)
            told[name] = told.get(name, 0) + 1
        self.assertGreater(min(told.values()), 60)
        self.assertEqual(len(told), 3)

    def test_words_of_equal_worth_and_length(self):
        # Of those the first, whether its letters count something or not, and in whatever order states are come to.
        fork = (2, ((1, 1), (None, None)), (False, True))
        self.assertEqual(most_kept(fork, ((1, 0), 1), (1, 1)), ("most", 1, "a"))
        self.assertEqual(most_kept(fork, ((0, 1), 1), (1, 1)), ("most", 1, "a"))
        self.assertEqual(most_kept(fork, ((1, 0), 0), (1, 1)), ("most", 1, "b"))
        for kind, limit, form, told in (
                ((4, ((2, 3, 2, 0), (1, 1, 3, 0), (3, 2, 0, 1), (0, 3, 1, 0)), (False, True, True, True)),
                 ((0, 0, 0, 0), 0), (-1, 0, 0, -2), ("most", 0, "b")),
                ((4, ((3, 1, 1, 3), (3, 2, 1, 0), (0, 3, 1, 2), (2, 0, 0, 2)), (False, False, True, False)),
                 ((0, 0, 1, 0), 0), (-1, 0, -1, 0), ("most", 0, "bb")),
                ((4, ((3, 1, 0, 3), (3, 3, 3, 1), (2, 0, 3, 2), (1, 2, 3, 0)), (False, True, False, True)),
                 ((0, 0, 1, 0), 2), (-2, -1, 1, -1), ("most", 1, "bcc")),
                ((4, ((0, 3, 1, 2), (3, 3, 0, 2), (1, 0, 0, 3), (0, 0, 1, 0)), (False, True, False, True)),
                 ((0, 0, 0, 0), 3), (0, -2, -1, 0), ("most", 0, "da"))):
            self.assertEqual(self.check(kind, limit, form), "most")
            self.assertEqual(most_kept(kind, limit, form), told)
        source = random.Random(8)
        for _ in range(600):
            letters, states = source.choice([2, 3, 4]), source.randint(2, 5)
            rows = tuple(tuple(source.randrange(states) for _ in range(letters)) for _ in range(states))
            kind = (letters, rows, tuple(source.random() < 0.4 for _ in range(states)))
            limit = (tuple(source.choice([0, 0, 0, 1]) for _ in range(letters)), source.randint(0, 3))
            self.check(kind, limit, random_form(source, letters, -2, source.choice([0, 0, 1])))

    def test_thin_kinds(self):
        source = random.Random(5)
        for kind in THIN.values():
            for _ in range(12):
                self.check(kind, (random_form(source, kind[0], 0, 2), source.randint(0, 20)),
                           random_form(source, kind[0], -3, 3))

    def test_units_in_which_nothing_counts(self):
        # Then each word keeps the limit, so it is as if there were none.
        source = random.Random(6)
        for _ in range(300):
            kind = random_kind(source, source.randint(1, 4), source.randint(1, 8))
            form = random_form(source, kind[0], -9, 9)
            for most in (0, 200):
                told, free = most_kept(kind, ((0,) * kind[0], most), form), greatest(kind, form)
                self.assertEqual(told[0], free[0])
                if told[0] == "most":
                    self.assertEqual(told, free)


class GreatestSizesTest(unittest.TestCase):
    def test_full_kinds(self):
        source = random.Random(7)
        for _ in range(8):
            rows = tuple(tuple(source.randrange(8) if source.random() < 0.3 else (at + 1) % 8 for _ in range(4))
                         for at in range(8))
            kind = (4, rows, (False,) * 7 + (True,))
            one, other = random_form(source, 4, 0, 1), random_form(source, 4, 0, 1)
            timed(breach, kind, (one, 200), (other, 200))
            timed(breach, kind, (one, 200), (one, 200))
            timed(most_kept, kind, (one, 200), random_form(source, 4, -99, 99))
            timed(most_kept, kind, (one, 200), random_form(source, 4, -99, 0))

    def test_slow_rounds(self):
        rows = tuple(((at + 1) % 8, (at + 1) % 8 if at == 7 else None, (at + 1) % 8 if at == 7 else None, None)
                     for at in range(8))
        kind = (4, rows, (False,) * 7 + (True,))
        word = timed(breach, kind, ((0, 1, 0, 0), 200), ((0, 0, 1, 0), 200))
        self.assertEqual(word, ("a" * 7 + "c") * 201 + "a" * 7)
        self.assertIsNone(timed(breach, kind, ((0, 1, 1, 0), 200), ((0, 0, 1, 0), 200)))
        self.assertEqual(timed(most_kept, kind, ((0, 1, 1, 0), 200), (0, -1, 1, 1)),
                         ("most", 200, ("a" * 7 + "c") * 200 + "a" * 7))


class BeyondTheBoundsTest(unittest.TestCase):
    def test_greater_numbers(self):
        self.assertEqual(breach(ONE, ((0,), 0), ((1,), 300)), "a" * 301)
        self.assertEqual(breach(ONE, ((12,), 300), ((20,), 400)), "a" * 21)
        self.assertEqual(most_kept(ONE, ((10,), 250), (7,)), ("most", 175, "a" * 25))


if __name__ == "__main__":
    unittest.main()
