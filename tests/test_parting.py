import random
import unittest

from samples import (KINDS, THIN, check_interface, check_ring, counted, is_word_of, line_of, plain_parts, random_cut,
                     random_kind, random_units, small_kinds, sorts, timed, with_idle_states, words_of)
from unitlimits import parting
from unitlimits.cuts import parts
from unitlimits.parting import most_parts, stuck

EVERY = (3, ((0, 0, 0),), (True,))
ONE = (1, ((0,),), (True,))
TURNS = (2, ((1, None), (None, 0)), (True, False))
SEVENS = KINDS["sevens"][0]
UNITS = ((1, 1, 1), (1, 3, 2))


def fits(units, cut, limit, word):
    """Whether a word keeps the limit and can be parted."""
    return counted(units[limit[0]], word) <= limit[1] and parts(units, cut, word) is not None


class ExampleTest(unittest.TestCase):
    def test_point_9a(self):
        every, units = (3, ((0, 0, 0),), (True,)), ((1, 1, 1), (1, 3, 2))
        self.assertEqual([stuck(every, units, (1, 3, "")), stuck(every, units, (1, 4, "c")),
                          stuck(every, units, (1, 4, "bc")), most_parts(every, units, (1, 3, ""), (0, 3)),
                          most_parts(every, units, (1, 3, ""), (1, 5)),
                          most_parts((1, ((0,),), (True,)), ((0,), (1,)), (1, 2, ""), (0, 0))[0]],
                         [None, "bc", "bb", ("most", 3, "aba"), ("most", 3, "aba"), "ring"])


class InterfaceTest(unittest.TestCase):
    def test_names_and_arguments(self):
        check_interface(self, parting, {"stuck": ["kind", "units", "cut"],
                                        "most_parts": ["kind", "units", "cut", "limit"]})

    def test_arguments_by_name(self):
        self.assertEqual(stuck(cut=(1, 4, "c"), units=UNITS, kind=EVERY), "bc")
        self.assertEqual(most_parts(limit=(0, 3), cut=(1, 3, ""), units=UNITS, kind=EVERY), ("most", 3, "aba"))


class StuckTest(unittest.TestCase):
    def check(self, kind, units, cut, words):
        told = stuck(kind, units, cut)
        first = next((word for word in words if parts(units, cut, word) is None), None)
        hint = (kind, units, cut)
        if told is not None and first is None:
            self.assertTrue(len(told) > len(words[-1]) if words else is_word_of(kind, told), hint)
            self.assertTrue(is_word_of(kind, told) and plain_parts(units, cut, told) is None, hint)
        else:
            self.assertEqual((told, type(told)), (first, type(first)), hint)
        return told

    def test_by_hand(self):
        for kind, units, cut, word in (
                (EVERY, UNITS, (0, 0, ""), "a"), (EVERY, UNITS, (0, 1, ""), None), (EVERY, UNITS, (0, 1, "a"), "aa"),
                (EVERY, UNITS, (0, 1, "c"), "ac"), (EVERY, UNITS, (0, 2, "c"), "acc"), (EVERY, UNITS, (1, 1, ""), "b"),
                (EVERY, UNITS, (1, 2, ""), "b"), (EVERY, UNITS, (1, 3, ""), None), (EVERY, UNITS, (1, 20, ""), None),
                (EVERY, UNITS, (1, 20, "abc"), "bbbbbbb"), (EVERY, UNITS, (1, 20, "a"), "b" + "a" * 18),
                (EVERY, UNITS, (0, 20, "c"), "a" + "c" * 20), (EVERY, UNITS, (1, 20, "ac"), "bccccccccc"),
                (EVERY, ((0, 0, 1),), (0, 0, ""), "c"), (EVERY, ((0, 0, 0),), (0, 0, "abc"), None),
                (EVERY, ((0, 0, 1),), (0, 1, "ab"), None), (EVERY, ((0, 0, 1),), (0, 1, "c"), "cc"),
                (EVERY, ((9, 9, 9),), (0, 8, ""), "a"), (EVERY, ((9, 9, 9),), (0, 9, "b"), "ab"),
                (TURNS, ((1, 1),), (0, 1, "b"), "ab"), (TURNS, ((1, 1),), (0, 2, "b"), None),
                (TURNS, ((1, 1),), (0, 20, "ab"), "ab" * 11), (TURNS, ((0, 1),), (0, 20, "ab"), "ab" * 21),
                (TURNS, ((1, 1),), (0, 0, ""), "ab"), (TURNS, ((0, 0),), (0, 0, "ab"), None),
                (SEVENS, ((3,),), (0, 20, "a"), "aaaaaaa"), (SEVENS, ((3,),), (0, 20, ""), None),
                (KINDS["no word"][0], ((9, 9),), (0, 0, ""), None),
                (KINDS["the empty word"][0], ((9,),), (0, 0, ""), None),
                (line_of("abcdabc"), ((1, 1, 1, 3),), (0, 2, ""), "abcdabc"),
                (line_of("abcdabc"), ((1, 1, 1, 3),), (0, 3, ""), None)):
            self.assertEqual(stuck(kind, units, cut), word, (kind, units, cut))

    def test_what_follows_a_rest_that_is_left_nothing(self):
        # The word goes on to its end, with letters that do not cling, too.
        kind = (2, ((1, None), (None, 2), (3, None), (4, None), (None, None)), (False,) * 4 + (True,))
        self.assertEqual(stuck(kind, ((1, 1),), (0, 1, "b")), "abaa")
        self.assertIsNone(stuck(kind, ((1, 1),), (0, 2, "b")))

    def test_small_kinds_against_all_words(self):
        source = random.Random(1)
        told = {}
        for kind in small_kinds(2, 2):
            words = list(words_of(kind, 8))
            for _ in range(2):
                units = random_units(source, 2, 2)
                told[self.check(kind, units, random_cut(source, units, 3), words) is None] = True
        self.assertEqual(len(told), 2)

    def test_many_kinds_against_all_words(self):
        source = random.Random(2)
        told = {}
        for _ in range(500):
            letters = source.choice([1, 2, 2, 3, 4])
            kind = random_kind(source, letters, source.randint(1, 6))
            words = list(words_of(kind, {1: 30, 2: 9, 3: 6, 4: 5}[letters]))
            units = random_units(source, letters, source.choice([1, 2, 4]))
            cut = random_cut(source, units, 5)
            word = self.check(kind, units, cut, words)
            self.assertEqual(stuck(with_idle_states(kind), units, cut), word)
            told[word is None] = told.get(word is None, 0) + 1
        self.assertGreater(min(told.values()), 100)

    def test_thin_kinds_against_all_words(self):
        source = random.Random(3)
        for kind in THIN.values():
            words = list(words_of(kind, 45))
            for _ in range(20):
                units = random_units(source, kind[0], source.choice([1, 2]))
                self.check(kind, units, random_cut(source, units, 20), words)

    def test_single_words(self):
        source = random.Random(4)
        told = {}
        for _ in range(2000):
            units = random_units(source, 4, source.choice([1, 2, 3]))
            cut = random_cut(source, units, 7)
            word = "".join(source.choice("abcd") for _ in range(source.randint(0, 8)))
            expected = word if plain_parts(units, cut, word) is None else None
            self.assertEqual(stuck(line_of(word), units, cut), expected)
            told[expected is None] = True
        self.assertEqual(len(told), 2)


class MostPartsTest(unittest.TestCase):
    def check(self, kind, units, cut, limit, words):
        """Checks the result by words told in their order, which are enough unless it is a ring."""
        told = most_parts(kind, units, cut, limit)
        hint = (kind, units, cut, limit)
        right = [word for word in words if fits(units, cut, limit, word)]
        many = [len(parts(units, cut, word)) for word in right]
        if told[0] == "ring":
            check_ring(self, kind, told, lambda word: fits(units, cut, limit, word),
                       lambda word: len(parts(units, cut, word)))
        elif told[0] == "none":
            self.assertEqual((told, right), (("none",), []), hint)
        else:
            self.assertEqual(sorts(told), (tuple, [str, int, str]), hint)
            if len(told[2]) > len(words[-1]):
                self.assertTrue(is_word_of(kind, told[2]) and fits(units, cut, limit, told[2]), hint)
                self.assertEqual(len(plain_parts(units, cut, told[2])), told[1], hint)
                self.assertLess(max(many, default=-1), told[1], hint)
            else:
                self.assertEqual(told, ("most", max(many), right[many.index(max(many))]), hint)
        self.assertEqual(most_parts(kind, units, cut, limit), told)
        return told[0]

    def test_by_hand(self):
        for kind, units, cut, limit, told in (
                (EVERY, UNITS, (1, 3, ""), (0, 0), ("most", 0, "")),
                (EVERY, UNITS, (0, 0, ""), (0, 40), ("most", 0, "")),
                (EVERY, UNITS, (0, 1, ""), (0, 40), ("most", 40, "a" * 40)),
                (EVERY, UNITS, (0, 2, ""), (0, 40), ("most", 20, "a" * 39)),
                (EVERY, UNITS, (0, 20, ""), (0, 40), ("most", 2, "a" * 21)),
                (EVERY, UNITS, (0, 20, ""), (0, 20), ("most", 1, "a")),
                (EVERY, UNITS, (1, 3, ""), (0, 40), ("most", 40, "ab" * 20)),
                (EVERY, UNITS, (1, 3, ""), (1, 40), ("most", 20, "ab" * 10)),
                (EVERY, UNITS, (0, 20, "abc"), (0, 40), ("most", 1, "a")),
                (EVERY, UNITS, (0, 2, "c"), (0, 4), ("most", 3, "aaca")),
                (EVERY, ((1, 1, 0),), (0, 1, ""), (0, 2), ("most", 2, "aa")),
                (EVERY, ((0, 0, 0),), (0, 0, ""), (0, 0), ("most", 1, "a")),
                (TURNS, ((1, 1),), (0, 1, ""), (0, 40), ("most", 40, "ab" * 20)),
                (TURNS, ((1, 1),), (0, 2, ""), (0, 39), ("most", 19, "ab" * 19)),
                (TURNS, ((1, 1),), (0, 1, "b"), (0, 40), ("most", 0, "")),
                (TURNS, ((1, 1),), (0, 3, "b"), (0, 40), ("most", 20, "ab" * 20)),
                (SEVENS, ((1,),), (0, 2, ""), (0, 6), ("none",)),
                (SEVENS, ((1,),), (0, 2, ""), (0, 40), ("most", 20, "a" * 39)),
                (SEVENS, ((1,),), (0, 6, "a"), (0, 40), ("none",)),
                (SEVENS, ((1,),), (0, 7, "a"), (0, 40), ("most", 1, "a" * 7)),
                (KINDS["no word"][0], ((0, 0),), (0, 20, ""), (0, 40), ("none",)),
                (KINDS["the empty word"][0], ((1,),), (0, 0, ""), (0, 0), ("most", 0, "")),
                (line_of("ba"), ((1, 1, 1, 1),), (0, 1, ""), (0, 2), ("most", 2, "ba")),
                (line_of("ba"), ((1, 1, 1, 1),), (0, 1, ""), (0, 1), ("none",)),
                (line_of("ba"), ((1, 1, 1, 1),), (0, 1, "a"), (0, 2), ("none",)),
                (line_of("ba"), ((1, 1, 1, 1),), (0, 1, "b"), (0, 2), ("most", 2, "ba"))):
            self.assertEqual(most_parts(kind, units, cut, limit), told, (kind, units, cut, limit))

    def test_rings(self):
        units, ones, none = ((1, 1, 1), (0, 0, 1)), ((0,), (1,)), ((0,), (0,))
        once, once_units = KINDS["d once"][0], ((0, 0, 0, 1), (1, 1, 1, 1))
        for kind, told, cut, limit, name in (
                (ONE, ones, (1, 2, ""), (0, 0), "ring"), (ONE, ones, (1, 2, "a"), (0, 0), "most"),
                (ONE, ones, (1, 0, ""), (0, 0), "most"), (ONE, none, (1, 2, ""), (0, 0), "most"),
                (ONE, ones, (0, 2, ""), (1, 40), "most"), (EVERY, units, (0, 20, ""), (1, 0), "ring"),
                (EVERY, units, (0, 20, "a"), (1, 0), "ring"), (EVERY, units, (0, 20, "ab"), (1, 40), "most"),
                (EVERY, units, (0, 20, "ab"), (1, 0), "most"), (EVERY, units, (1, 20, ""), (1, 40), "most"),
                (TURNS, ((0, 1), (1, 0)), (0, 1, "b"), (1, 40), "most"),
                (TURNS, ((0, 0), (1, 0)), (1, 1, "b"), (0, 40), "ring"),
                (once, once_units, (1, 20, ""), (0, 1), "ring"), (once, once_units, (1, 20, ""), (0, 0), "none"),
                (once, ((0, 0, 0, 1), (1, 1, 1, 0)), (1, 20, "abc"), (0, 1), "most")):
            words = list(words_of(kind, 5))
            self.assertEqual(self.check(kind, told, cut, limit, words), name, (kind, told, cut, limit))

    def test_small_kinds_against_all_words(self):
        source = random.Random(5)
        told = {}
        for kind in small_kinds(2, 2):
            words = list(words_of(kind, 8))
            for _ in range(2):
                units = random_units(source, 2, 2)
                limit = (source.randrange(len(units)), source.randint(0, 4))
                told[self.check(kind, units, random_cut(source, units, 3), limit, words)] = True
        self.assertEqual(len(told), 3)

    def test_many_kinds_against_all_words(self):
        source = random.Random(6)
        told = {}
        for _ in range(500):
            letters = source.choice([1, 2, 2, 3, 4])
            kind = random_kind(source, letters, source.randint(1, 6))
            words = list(words_of(kind, {1: 30, 2: 9, 3: 6, 4: 5}[letters]))
            units = random_units(source, letters, source.choice([1, 1, 1, 2, 4]))
            if source.random() < 0.5:
                # Nothing counts in one unit.
                units = ((0,) * letters,) + units[1:]
            cut, limit = random_cut(source, units, 5), (source.randrange(len(units)), source.randint(0, 6))
            name = self.check(kind, units, cut, limit, words)
            other = most_parts(with_idle_states(kind), units, cut, limit)
            self.assertEqual(other[0], name)
            if name != "ring":
                self.assertEqual(other, most_parts(kind, units, cut, limit))
            told[name] = told.get(name, 0) + 1
        self.assertGreater(min(told.values()), 9)
        self.assertEqual(len(told), 3)

    def test_rings_of_many_kinds(self):
        source = random.Random(10)
        told = {}
        for _ in range(250):
            states = source.randint(1, 3)
            rows = tuple(tuple(source.randrange(states) for _ in range(2)) for _ in range(states))
            kind = (2, rows, tuple(source.random() < 0.5 for _ in range(states)))
            units = (source.choice([(0, 0), (0, 1), (1, 0)]), source.choice([(1, 1), (0, 1), (2, 1), (1, 3)]))
            cut = (1, source.randint(0, 4), source.choice(["", "a", "b", "ab"]))
            name = self.check(kind, units, cut, (0, source.randint(0, 1)), list(words_of(kind, 9)))
            told[name] = told.get(name, 0) + 1
        self.assertGreater(min(told.values()), 30)
        self.assertEqual(len(told), 3)

    def test_thin_kinds_against_all_words(self):
        source = random.Random(7)
        told = {}
        for kind in THIN.values():
            words = list(words_of(kind, 45))
            for _ in range(12):
                units = random_units(source, kind[0], source.choice([1, 2]))
                limit = (source.randrange(len(units)), source.choice([3, 15, 40]))
                told[self.check(kind, units, random_cut(source, units, 20), limit, words)] = True
        self.assertGreaterEqual(len(told), 2)

    def test_single_words(self):
        source = random.Random(8)
        for _ in range(2000):
            units = random_units(source, 4, source.choice([1, 2, 3]))
            cut, limit = random_cut(source, units, 7), (source.randrange(len(units)), source.randint(0, 20))
            word = "".join(source.choice("abcd") for _ in range(source.randint(0, 8)))
            told = plain_parts(units, cut, word)
            keeps = counted(units[limit[0]], word) <= limit[1]
            expected = ("none",) if told is None or not keeps else ("most", len(told), word)
            self.assertEqual(most_parts(line_of(word), units, cut, limit), expected)


class GreatestSizesTest(unittest.TestCase):
    def test_full_kinds(self):
        source = random.Random(9)
        for units, cut, limit in ((((1, 0, 0, 0), (0, 1, 0, 0)), (1, 20, "bcd"), (0, 40)),
                                  (((0, 0, 1, 1), (1, 1, 0, 0)), (0, 20, "acd"), (1, 40)),
                                  (((0, 1, 1, 0), (0, 0, 1, 1)), (1, 20, ""), (0, 40)),
                                  (((0, 1, 1, 1), (1, 1, 1, 1)), (1, 19, "ab"), (0, 40)),
                                  (((1, 1, 1, 2), (1, 9, 2, 3)), (1, 20, "ad"), (0, 40))):
            rows = tuple(tuple(source.randrange(8) for _ in range(4)) for _ in range(8))
            kind = (4, rows, (False,) * 7 + (True,))
            timed(most_parts, kind, units, cut, limit)
            timed(stuck, kind, units, cut)

    def test_a_late_end(self):
        rows = tuple(((at + 1) % 8, at, None, None) for at in range(8))
        kind = (4, rows, (False,) * 7 + (True,))
        told = timed(most_parts, kind, ((1, 0, 0, 0), (0, 1, 1, 1)), (1, 20, "ab"), (0, 40))
        self.assertEqual(told, ("most", 1, "aaaaaaa"))
        told = timed(most_parts, kind, ((1, 0, 0, 0), (1, 0, 0, 0)), (1, 1, "b"), (0, 40))
        self.assertEqual(told, ("most", 39, "a" * 39))


class BeyondTheBoundsTest(unittest.TestCase):
    def test_more_of_all(self):
        every = (5, ((0,) * 5,), (True,))
        units = ((9, 9, 9, 9, 30), (0, 0, 0, 0, 1), (1, 1, 1, 1, 1))
        self.assertEqual(stuck(every, units, (0, 30, "e")), "ae")
        self.assertEqual(stuck(every, units, (0, 29, "")), "e")
        self.assertEqual(most_parts(every, units, (2, 30, ""), (2, 61)), ("most", 3, "a" * 61))


if __name__ == "__main__":
    unittest.main()
