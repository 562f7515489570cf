import random
import unittest

from samples import (KINDS, THIN, counted, is_word_of, line_of, plain_left, random_cut, random_kind, random_units,
                     small_kinds, timed, with_idle_states, words_of)
from unitlimits.cuts import left, overlong, unlike_cuts

EVERY = (3, ((0, 0, 0),), (True,))
FOUR = (4, ((0, 0, 0, 0),), (True,))
ONE = (1, ((0,),), (True,))
UNITS = ((1, 1, 1), (1, 3, 2))


def near(source, units, row, most):
    """A row of cuts that differs from another one by little."""
    cuts = list(row)
    at = source.randrange(len(cuts) + 1)
    change = source.choice(["more", "less", "order", "number", "letters", "unit"])
    if change == "more" and len(cuts) < 3:
        cuts.insert(at, source.choice([random_cut(source, units, most), *cuts]))
    elif at < len(cuts):
        unit, number, clings = cuts[at]
        if change == "less":
            del cuts[at]
        elif change == "order":
            source.shuffle(cuts)
        elif change == "number":
            cuts[at] = unit, max(0, min(20, number + source.choice([-1, 1]))), clings
        elif change == "letters":
            letter = source.choice("abcd"[:len(units[0])])
            names = set(clings) ^ {letter}
            cuts[at] = unit, number, "".join(sorted(names))
        else:
            cuts[at] = len(units) - 1 - unit, number, clings
    return tuple(cuts)


def random_row(source, units, most):
    return tuple(random_cut(source, units, most) for _ in range(source.choice([0, 1, 1, 2, 2, 3, 3])))


def great_row(source, units):
    """A row of cuts that leave much."""
    return tuple((unit, source.randint(16, 20), clings) for unit, _, clings in random_row(source, units, 20))


class RowsTest(unittest.TestCase):
    """Checks of both functions by what the cuts leave of many words, told in the order of words."""

    def check_unlike(self, kind, units, one, other, words):
        told = unlike_cuts(kind, units, one, other)
        self.assertEqual(unlike_cuts(kind, units, other, one), told)
        self.check(kind, told, words, lambda word: left(units, one, word) != left(units, other, word),
                   (kind, units, one, other))
        return told

    def check_overlong(self, kind, units, row, limit, words):
        told = overlong(kind, units, row, limit)
        self.check(kind, told, words, lambda word: counted(units[limit[0]], left(units, row, word)) > limit[1],
                   (kind, units, row, limit))
        return told

    def check(self, kind, told, words, is_looked_for, hint):
        first = next((word for word in words if is_looked_for(word)), None)
        if told is not None and (first is None or len(told) > len(words[-1])):
            # Beyond the words that are looked at.
            self.assertIsNone(first, hint)
            self.assertTrue(is_word_of(kind, told) and is_looked_for(told), hint)
            self.assertGreater(len(told), len(words[-1]), hint)
        else:
            self.assertEqual((told, type(told)), (first, type(first)), hint)


class ExampleTest(unittest.TestCase):
    def test_point_9(self):
        every, units = (3, ((0, 0, 0),), (True,)), ((1, 1, 1), (1, 3, 2))
        self.assertEqual([unlike_cuts(every, units, ((0, 2, ""),), ((0, 3, ""), (0, 2, ""))),
                          unlike_cuts(every, units, ((0, 1, "c"),), ((0, 1, ""),)),
                          unlike_cuts(every, units, ((0, 2, ""), (0, 2, "c")), ((0, 2, "c"),))], [None, "ac", "aac"])
        self.assertEqual([overlong(every, units, ((0, 2, ""),), (1, 6)), overlong(every, units, ((0, 2, ""),), (1, 5)),
                          overlong(every, units, (), (1, 5))], [None, "bb", "bb"])


class UnlikeCutsTest(RowsTest):
    def test_by_hand(self):
        for units, one, other, word in (
                (UNITS, (), (), None), (UNITS, (), ((0, 0, ""),), "a"), (UNITS, (), ((0, 2, ""),), "aaa"),
                (UNITS, (), ((1, 2, ""),), "b"), (UNITS, (), ((0, 20, ""),), "a" * 21),
                (UNITS, (), ((1, 20, ""),), "bbbbbbb"),
                (UNITS, ((0, 2, ""),), ((0, 2, ""),), None), (UNITS, ((0, 2, ""),), ((0, 2, ""),) * 3, None),
                (UNITS, ((0, 2, ""),), ((0, 3, ""),), "aaa"), (UNITS, ((0, 19, ""),), ((0, 20, ""),), "a" * 20),
                (UNITS, ((0, 5, ""), (1, 9, "")), ((1, 9, ""), (0, 5, "")), None),
                (UNITS, ((0, 2, "c"), (0, 2, "")), ((0, 2, ""), (0, 2, "c")), "aac"),
                (UNITS, ((0, 2, "c"), (0, 2, "")), ((0, 2, "c"),), None),
                (UNITS, ((0, 2, "c"),), ((0, 2, "bc"),), "aab"),
                (UNITS, ((0, 3, ""), (0, 3, "c")), ((0, 3, ""),), None),
                (UNITS, ((0, 0, "abc"),), ((0, 0, ""),), None), (UNITS, ((0, 0, "abc"),), ((0, 1, "abc"),), "a"),
                (UNITS, ((0, 1, "abc"),), ((0, 1, ""),), "aa"), (((0, 0, 0),), ((0, 0, "abc"),), (), None),
                (((0, 0, 1),), ((0, 0, "c"),), ((0, 0, ""),), "ac"),
                (((0, 0, 1),), ((0, 0, "b"),), ((0, 0, ""),), None),
                (((0, 0, 1),), ((0, 1, "b"),), ((0, 1, ""),), None),
                (((0, 1, 1),), ((0, 1, "b"),), ((0, 1, ""),), "bb"),
                (((1, 0, 0),), ((0, 1, "a"),), ((0, 1, "ab"),), "aba"),
                (((9, 9, 9),), ((0, 8, ""),), ((0, 0, ""),), None),
                (((9, 9, 9),), ((0, 17, ""),), ((0, 9, ""),), None),
                (((9, 9, 9),), ((0, 18, ""),), ((0, 9, ""),), "aa")):
            for row, rest in ((one, other), (other, one)):
                self.assertEqual(unlike_cuts(EVERY, units, row, rest), word, (units, row, rest))

    def test_a_later_cut_may_be_over_its_number_first(self):
        # Of "aac" the second cut leaves "", as "a" and "c" cling; of "aacb" the first leaves "aa", the second all.
        units, row = ((0, 1, 0, 0), (0, 0, 1, 0)), ((0, 0, "b"), (1, 0, "ac"))
        for word, expected in (("aac", ""), ("aacb", "aa"), ("aaccb", ""), ("aacab", ""), ("aacbb", "aa"), ("bac", "")):
            self.assertEqual(plain_left(units, row, word), expected)
            told = unlike_cuts(line_of(word), units, row, ((0, 0, "b"),))
            self.assertEqual(told, None if expected or word == "bac" else word)

    def test_cuts_that_get_over_at_once_where_a_third_one_may_follow(self):
        # Of "abc" the second cuts leave "ab" and "a", and the first one, if it got over its number, would leave "".
        units = ((1, 1, 1, 1), (1, 1, 1, 3))
        one, other = ((0, 20, "bc"), (1, 2, "")), ((0, 20, "bc"), (1, 2, "c"))
        self.assertEqual([plain_left(units, row, "abc") for row in (one, other)], ["ab", "a"])
        self.assertEqual(unlike_cuts(line_of("abc"), units, one, other), "abc")
        self.assertEqual(unlike_cuts(line_of("abc" + "bc" * 8), units, one, other), "abc" + "bc" * 8)
        self.assertIsNone(unlike_cuts(line_of("abc" + "bc" * 9), units, one, other))
        self.assertEqual(unlike_cuts(line_of("abca" + "bc" * 9), units, one, other), "abca" + "bc" * 9)

    def test_cuts_of_single_words(self):
        # The numbers of letters that are left, each by a cut that leaves so many letters.
        source = random.Random(12)
        for _ in range(1500):
            signs = (1, 1, 1, 1)
            units = tuple(tuple(source.choice([0, 0, 1, 1, 2]) for _ in range(4)) for _ in range(2)) + (signs,)
            row = tuple((source.randrange(2), source.choice([0, 0, 1, 1, 2, 3]),
                         "".join(letter for letter in "abcd" if source.random() < 0.7)) for _ in range(3))
            word = "".join(source.choice("abcd") for _ in range(source.randint(3, 8)))
            kind, many = line_of(word), len(plain_left(units, row, word))
            self.assertIsNone(unlike_cuts(kind, units, row, ((2, many, ""),)), (units, row, word))
            self.assertIsNone(overlong(kind, units, row, (2, many)), (units, row, word))
            if many:
                self.assertEqual(unlike_cuts(kind, units, row, ((2, many - 1, ""),)), word, (units, row, word))
                self.assertEqual(overlong(kind, units, row, (2, many - 1)), word, (units, row, word))
            if many < len(word):
                self.assertEqual(unlike_cuts(kind, units, row, ((2, many + 1, ""),)), word, (units, row, word))

    def test_cuts_up_to_20_on_thin_kinds(self):
        source = random.Random(1)
        told = {}
        for kind in THIN.values():
            words = list(words_of(kind, 45))
            for at in range(24):
                units = random_units(source, kind[0], source.choice([1, 1, 2]))
                one = great_row(source, units) if at % 2 else random_row(source, units, source.choice([3, 20]))
                other = source.choice([near(source, units, one, 20), random_row(source, units, 20)])
                word = self.check_unlike(kind, units, one, other, words)
                told[word is None, word is not None and len(word) > 20] = True
        self.assertEqual(len(told), 3)

    def test_words_of_forty_letters(self):
        kind = (2, ((0, 1), (1, None)), (True, True))
        units = ((1, 0), (0, 1))
        for at in (15, 20):
            word = unlike_cuts(kind, units, ((0, at, ""),), ((0, at, "a"),))
            self.assertEqual(word, "a" * (at + 1))
        ring = (1, tuple((at + 1,) for at in range(7)) + ((0,),), (True,) + (False,) * 7)
        self.assertEqual(unlike_cuts(ring, ((1,),), ((0, 20, ""),), ((0, 19, ""),)), "a" * 24)
        pairs = (2, ((1, None), (None, 0)), (True, False))
        self.assertEqual(unlike_cuts(pairs, units, ((0, 20, ""),), ()), "ab" * 21)
        self.assertEqual(unlike_cuts(pairs, units, ((0, 20, "a"),), ((0, 20, ""),)), "ab" * 21)
        self.assertEqual(unlike_cuts(pairs, units, ((0, 20, "b"),), ((0, 20, ""),)), None)
        self.assertEqual(unlike_cuts(pairs, units, ((1, 20, "b"),), ((1, 20, ""),)), "ab" * 21)
        self.assertEqual(unlike_cuts(pairs, units, ((1, 20, ""),), ((0, 20, ""),)), "ab" * 20 + "ab")
        self.assertEqual(unlike_cuts(pairs, ((1, 1), (0, 1)), ((1, 20, ""),), ((1, 19, ""),)), "ab" * 20)

    def test_small_kinds_against_all_words(self):
        source = random.Random(2)
        for kind in small_kinds(2, 2):
            words = list(words_of(kind, 9))
            units = random_units(source, 2, 2)
            one = random_row(source, units, 3)
            for other in (near(source, units, one, 3), random_row(source, units, 3)):
                if words:
                    self.check_unlike(kind, units, one, other, words)
                else:
                    self.assertIsNone(unlike_cuts(kind, units, one, other))

    def test_many_kinds_against_all_words(self):
        source = random.Random(3)
        told = {}
        for _ in range(500):
            letters = source.choice([2, 2, 3, 3, 4])
            kind = random_kind(source, letters, source.randint(1, 5))
            words = list(words_of(kind, {2: 9, 3: 7, 4: 5}[letters]))
            if words:
                units = random_units(source, letters, source.choice([1, 1, 2]))
                one = random_row(source, units, 4)
                other = source.choice([near(source, units, one, 4), random_row(source, units, 4)])
                word = self.check_unlike(kind, units, one, other, words)
                self.assertEqual(unlike_cuts(with_idle_states(kind), units, one, other), word)
                told[word is None] = told.get(word is None, 0) + 1
        self.assertGreater(min(told.values()), 80)

    def test_rows_that_cling_against_all_words(self):
        # Three cuts that get over their numbers in another order than they stand, far apart, in words that cling.
        source = random.Random(4)
        told = {}
        for kind, length, times in ((EVERY, 7, 120), (FOUR, 5, 120)):
            words = list(words_of(kind, length))
            for _ in range(times):
                units = tuple(tuple(source.choice([0, 0, 1, 1, 2]) for _ in range(kind[0])) for _ in range(2))
                one = tuple((source.randrange(2), source.choice([0, 1, 1, 2, 3]),
                             "".join(letter for letter in "abcd"[:kind[0]] if source.random() < 0.7)) for _ in range(3))
                word = self.check_unlike(kind, units, one, near(source, units, one, 3), words)
                told[word is None] = told.get(word is None, 0) + 1
        self.assertGreater(min(told.values()), 40)

    def test_long_words_where_none_is_told(self):
        # All words are alike then, those at random too.
        source = random.Random(5)
        none = 0
        while none < 60:
            units = random_units(source, 4, 1)
            one = random_row(source, units, 20)
            other = near(source, units, one, 20)
            word = unlike_cuts(FOUR, units, one, other)
            none += word is None
            for _ in range(40):
                letters = source.choice(["ab", "abcd", "cd", "acd", "bd"])
                many = source.randint(1, 60) if word is None else source.randint(0, len(word) - 1)
                text = "".join(source.choice(letters) for _ in range(many))
                self.assertEqual(left(units, one, text), left(units, other, text), (units, one, other, text))

    def test_rows_that_are_the_same(self):
        source = random.Random(6)
        for kind in [kind for kind, _ in KINDS.values()] + list(THIN.values()):
            for _ in range(6):
                units = random_units(source, kind[0], 2)
                row = random_row(source, units, 20)
                self.assertIsNone(unlike_cuts(kind, units, row, row))
                if 0 < len(row) < 3:
                    # What a row leaves is left again, so the last cut may stand twice.
                    self.assertIsNone(unlike_cuts(kind, units, row, row + row[-1:]))

    def test_kinds_without_words(self):
        for name in ("no word", "no word, an end not come to", "the empty word"):
            kind, _ = KINDS[name]
            self.assertIsNone(unlike_cuts(kind, ((1,) * kind[0],), (), ((0, 0, ""),)))


class OverlongTest(RowsTest):
    def test_by_hand(self):
        for units, row, limit, word in (
                (UNITS, (), (0, 0), "a"), (UNITS, (), (0, 20), "a" * 21), (UNITS, (), (1, 0), "a"),
                (UNITS, (), (1, 20), "bbbbbbb"), (UNITS, ((0, 0, ""),), (1, 0), None),
                (UNITS, ((0, 1, ""),), (1, 0), "a"), (UNITS, ((0, 1, ""),), (1, 1), "b"),
                (UNITS, ((0, 1, ""),), (1, 2), "b"), (UNITS, ((0, 1, ""),), (1, 3), None),
                (UNITS, ((0, 4, ""),), (0, 4), None),
                (UNITS, ((0, 4, ""),), (0, 3), "aaaa"), (UNITS, ((1, 20, ""),), (0, 20), None),
                (UNITS, ((1, 20, ""),), (0, 19), "a" * 20), (UNITS, ((1, 20, "abc"),), (0, 19), "a" * 20),
                (UNITS, ((1, 2, ""), (0, 1, "")), (1, 1), "c"), (UNITS, ((1, 2, ""), (0, 1, "")), (1, 2), None),
                (UNITS, ((0, 6, "bc"),), (1, 17), "bbbbbb"), (UNITS, ((0, 7, ""), (1, 19, "")), (1, 18), "abbbbbb"),
                (((0, 0, 1), (1, 0, 0)), ((0, 0, ""),), (1, 20), "a" * 21),
                (((0, 0, 1), (1, 0, 0)), ((1, 20, ""),), (1, 20), None),
                (((0, 0, 1), (1, 0, 0)), ((0, 20, ""), (1, 20, "")), (0, 19), "c" * 20),
                (((0, 0, 0), (1, 1, 1)), ((1, 3, ""),), (0, 0), None), (((9, 9, 9),), ((0, 20, ""),), (0, 17), "aa"),
                (((9, 9, 9),), ((0, 20, ""),), (0, 18), None)):
            self.assertEqual(overlong(EVERY, units, row, limit), word, (units, row, limit))

    def test_letters_that_cling_behind(self):
        # A word that must go on with letters that cling loses by this what it has ahead.
        kind = (2, ((1, None), (2, None), (None, 3), (None, 4), (None, None)), (False,) * 4 + (True,))
        for row, limit, word in (
                (((0, 3, "b"),), (0, 1), None), (((0, 3, "b"),), (0, 0), "aabb"), (((0, 3, ""),), (0, 2), "aabb"),
                (((0, 3, ""),), (0, 3), None), (((0, 4, "b"),), (0, 3), "aabb"), (((0, 3, "ab"),), (0, 0), None),
                (((0, 2, ""), (0, 3, "b")), (0, 1), "aabb"), (((0, 3, ""), (0, 2, "b")), (0, 1), None)):
            self.assertEqual(overlong(kind, ((1, 1),), row, limit), word, (row, limit))

    def test_a_word_that_counts_more_may_be_left_more_of(self):
        # Where the first cut leaves less, its end is a border for the second one, in which letters cling.
        rows = ((1, 1, None, None), (None, None, 2, None), (None, None, None, 3), (None,) * 4)
        kind = (4, rows, (False,) * 3 + (True,))
        units, row = ((0, 1, 0, 1), (0, 0, 1, 1)), ((0, 1, ""), (1, 1, "cd"))
        self.assertEqual([plain_left(units, row, word) for word in ("acd", "bcd")], ["", "bc"])
        self.assertEqual(overlong(kind, units, row, (1, 0)), "bcd")
        self.assertIsNone(overlong(kind, units, row[:1] + ((1, 1, ""),), (1, 1)))
        self.assertEqual(overlong(kind, units, row[:1] + ((1, 1, ""),), (1, 0)), "acd")

    def test_cuts_up_to_20_on_thin_kinds(self):
        source = random.Random(7)
        told = {}
        for kind in THIN.values():
            words = list(words_of(kind, 45))
            for _ in range(30):
                units = random_units(source, kind[0], source.choice([1, 1, 2]))
                row = source.choice([random_row(source, units, 20), great_row(source, units)])
                limit = (source.randrange(len(units)), source.choice([0, 3, 10, 19, 20]))
                word = self.check_overlong(kind, units, row, limit, words)
                told[word is None, word is not None and len(word) > 20] = True
        self.assertEqual(len(told), 3)

    def test_words_of_forty_letters(self):
        pairs = (2, ((1, None), (None, 0)), (True, False))
        units = ((1, 0), (0, 1))
        self.assertEqual(overlong(pairs, units, (), (0, 20)), "ab" * 21)
        self.assertEqual(overlong(pairs, units, ((1, 20, ""),), (0, 20)), "ab" * 21)
        self.assertIsNone(overlong(pairs, units, ((1, 20, "b"),), (0, 20)), None)
        self.assertIsNone(overlong(pairs, units, ((1, 19, ""),), (0, 20)), None)
        self.assertEqual(overlong(pairs, units, ((1, 20, "a"),), (0, 19)), "ab" * 20)
        self.assertEqual(overlong(pairs, units, ((0, 20, ""), (1, 20, "")), (1, 19)), "ab" * 20)

    def test_small_kinds_against_all_words(self):
        source = random.Random(8)
        for kind in small_kinds(2, 2):
            words = list(words_of(kind, 9))
            units = random_units(source, 2, 2)
            for _ in range(2):
                row, limit = random_row(source, units, 3), (source.randrange(len(units)), source.randint(0, 4))
                if words:
                    self.check_overlong(kind, units, row, limit, words)
                else:
                    self.assertIsNone(overlong(kind, units, row, limit))

    def test_many_kinds_against_all_words(self):
        source = random.Random(9)
        told = {}
        for _ in range(500):
            letters = source.choice([2, 2, 3, 3, 4])
            kind = random_kind(source, letters, source.randint(1, 5))
            words = list(words_of(kind, {2: 9, 3: 7, 4: 5}[letters]))
            if words:
                units = random_units(source, letters, source.choice([1, 1, 2]))
                row, limit = random_row(source, units, 4), (source.randrange(len(units)), source.randint(0, 4))
                word = self.check_overlong(kind, units, row, limit, words)
                self.assertEqual(overlong(with_idle_states(kind), units, row, limit), word)
                told[word is None] = told.get(word is None, 0) + 1
        self.assertGreater(min(told.values()), 50)

    def test_rows_that_cling_against_all_words(self):
        source = random.Random(10)
        told = {}
        for _ in range(250):
            kind = random_kind(source, 3, source.randint(2, 5))
            words = list(words_of(kind, 8))
            units = tuple(tuple(source.choice([0, 0, 1, 1, 2]) for _ in range(3)) for _ in range(2))
            row = tuple((source.randrange(2), source.choice([0, 1, 1, 2, 3]),
                         "".join(letter for letter in "abc" if source.random() < 0.7)) for _ in range(3))
            if words:
                word = self.check_overlong(kind, units, row, (source.randrange(2), source.randint(0, 2)), words)
                told[word is None] = told.get(word is None, 0) + 1
        self.assertGreater(min(told.values()), 20)

    def test_kinds_without_words(self):
        for name in ("no word", "no word, an end not come to", "the empty word"):
            kind, _ = KINDS[name]
            self.assertIsNone(overlong(kind, ((9,) * kind[0],), (), (0, 0)))


class GreatestSizesTest(unittest.TestCase):
    def test_full_kinds(self):
        source = random.Random(11)
        for _ in range(12):
            rows = tuple(tuple(source.randrange(8) for _ in range(4)) for _ in range(8))
            kind = (4, rows, (False,) * 7 + (True,))
            units = source.choice([((0, 0, 1, 1), (1, 1, 0, 0)), ((1, 0, 1, 0), (0, 1, 1, 1)),
                                   ((1, 0, 0, 0), (0, 1, 0, 0)), ((1, 2, 3, 4), (9, 1, 0, 1))])
            clings = ["abc", "bcd", "ad", "abd", "", "cd"]
            row = tuple((source.randrange(2), source.choice([19, 20]), source.choice(clings)) for _ in range(3))
            for other in (row, row[::-1], row[:2]):
                timed(unlike_cuts, kind, units, row, other)
            for most in (19, 20):
                timed(overlong, kind, units, row, (source.randrange(2), most))

    def test_one_letter(self):
        self.assertEqual(timed(unlike_cuts, ONE, ((1,), (0,)), ((0, 20, ""), (1, 0, "")), ((0, 19, ""),)), "a" * 20)
        self.assertEqual(timed(overlong, ONE, ((1,), (0,)), ((1, 0, "a"),), (0, 20)), "a" * 21)


class BeyondTheBoundsTest(unittest.TestCase):
    def test_more_of_all(self):
        every = (5, ((0,) * 5,), (True,))
        units = ((1, 1, 1, 1, 12), (0, 0, 0, 0, 1), (1, 1, 1, 1, 1))
        row = ((2, 30, ""), (1, 30, ""), (0, 90, ""), (0, 84, ""))
        self.assertEqual(overlong(every, units, row, (2, 29)), "a" * 30)
        self.assertEqual(unlike_cuts(every, units, ((1, 3, "e"),), ((1, 3, ""),)), "eeee")


if __name__ == "__main__":
    unittest.main()
