"""The functions that decide something for all words, each against a plain look at all words up to some length."""

import random
import unittest

from samples import (check_ring, counted, is_word_of, plain_left, plain_parts, random_cut, random_form, random_units,
                     small_kinds, sorts, words_of)
from unitlimits.cuts import overlong, unlike_cuts
from unitlimits.limits import breach, most_kept
from unitlimits.parting import most_parts, stuck

# What the slowest questions are asked of: kinds of one state with several letters, and rings.
ONES = [(letters, ((0,) * letters,), (True,)) for letters in (1, 2, 3, 4)]
RING = (2, ((1, None), (2, None), (3, None), (4, None), (5, None), (6, None), (7, None), (None, 0)), (True,) * 8)


def ring_of(source, letters):
    """A ring of up to eight states, in which each step may take one letter or several ones."""
    states = source.randint(2, 8)
    rows = []
    for at in range(states):
        names = [name for name in range(letters) if source.random() < 0.5] or [source.randrange(letters)]
        rows.append(tuple((at + 1) % states if name in names else None for name in range(letters)))
    return letters, tuple(rows), tuple(source.random() < 0.6 for _ in range(states))


def some_words(kind, many):
    """All words of the kind up to some length, where there are not many that are read so far."""
    _, rows, ends = kind
    words, level = [], [("", 0)]
    while level and len(words) + len(level) <= many and len(level[0][0]) < 40:
        words.extend(word for word, state in level if ends[state])
        level = [(word + "abcd"[at], item) for word, state in level for at, item in enumerate(rows[state])
                 if item is not None]
    return words


class AllWordsTest(unittest.TestCase):
    def check_first(self, kind, told, words, is_looked_for, hint):
        """Checks that told is the first word that is looked for, as far as words go, which are all up to a length."""
        first = next((word for word in words if is_looked_for(word)), None)
        longest = len(words[-1]) if words else -1
        if told is not None and len(told) > longest:
            self.assertIsNone(first, hint)
            self.assertTrue(is_word_of(kind, told) and is_looked_for(told), hint)
        else:
            self.assertEqual((told, type(told)), (first, type(first)), hint)

    def check_most(self, kind, told, words, is_right, measure, hint):
        """Checks what tells the most of a measure that a word has which is right, as far as words go."""
        right = [word for word in words if is_right(word)]
        sizes = [measure(word) for word in right]
        if told[0] == "ring":
            check_ring(self, kind, told, is_right, measure)
        elif told[0] == "none":
            self.assertEqual((told, right), (("none",), []), hint)
        elif words and len(told[2]) <= len(words[-1]):
            expected = ("most", max(sizes), right[sizes.index(max(sizes))])
            self.assertEqual((told, sorts(told)), (expected, sorts(expected)), hint)
        else:
            self.assertTrue(is_word_of(kind, told[2]) and is_right(told[2]), hint)
            self.assertEqual(measure(told[2]), told[1], hint)
            self.assertLess(max(sizes, default=told[1] - 1), told[1], hint)

    def check_cuts(self, kind, words, units, one, other, limit):
        lefts = {word: (plain_left(units, one, word), plain_left(units, other, word)) for word in words}

        def pair(word):
            return lefts.get(word) or (plain_left(units, one, word), plain_left(units, other, word))

        hint = (kind, units, one, other, limit)
        self.check_first(kind, unlike_cuts(kind, units, one, other), words,
                         lambda word: pair(word)[0] != pair(word)[1], hint)
        self.check_first(kind, overlong(kind, units, one, limit), words,
                         lambda word: counted(units[limit[0]], pair(word)[0]) > limit[1], hint)

    def check_limits(self, kind, words, one, other, form):
        def keeps(limit, word):
            return counted(limit[0], word) <= limit[1]

        hint = (kind, one, other, form)
        self.check_first(kind, breach(kind, one, other), words,
                         lambda word: keeps(one, word) and not keeps(other, word), hint)
        self.check_most(kind, most_kept(kind, one, form), words, lambda word: keeps(one, word),
                        lambda word: counted(form, word), hint)

    def check_parts(self, kind, words, units, cut, limit):
        lists = {word: plain_parts(units, cut, word) for word in words}

        def parts_of(word):
            return lists[word] if word in lists else plain_parts(units, cut, word)

        hint = (kind, units, cut, limit)
        self.check_first(kind, stuck(kind, units, cut), words, lambda word: parts_of(word) is None, hint)
        self.check_most(kind, most_parts(kind, units, cut, limit), words,
                        lambda word: parts_of(word) is not None and counted(units[limit[0]], word) <= limit[1],
                        lambda word: len(parts_of(word)), hint)

    def check_all(self, source, kind, words, top):
        """Checks all functions by questions at random, with numbers up to the top."""
        units = random_units(source, kind[0], source.choice([1, 1, 2]))
        one, other = [tuple(random_cut(source, units, top) for _ in range(source.randint(0, 3))) for _ in range(2)]
        if one and source.random() < 0.5:
            other = one[1:] + one[:1]
        self.check_cuts(kind, words, units, one, other, (source.randrange(len(units)), source.randint(0, top)))
        limits = [(random_form(source, kind[0], 0, source.choice([1, 2])), source.randint(0, top)) for _ in range(2)]
        self.check_limits(kind, words, limits[0], limits[1], random_form(source, kind[0], -2, 2))
        limit = (source.randrange(len(units)), source.randint(0, top))
        self.check_parts(kind, words, units, random_cut(source, units, top), limit)

    def test_all_kinds_of_two_states_and_two_letters(self):
        source = random.Random(1)
        for kind in small_kinds(2, 2):
            words = list(words_of(kind, 7))
            for top in (1, 2, 3):
                self.check_all(source, kind, words, top)

    def test_all_kinds_of_one_letter(self):
        source = random.Random(2)
        for states in (1, 2, 3):
            for kind in small_kinds(1, states):
                self.check_all(source, kind, list(words_of(kind, 20)), 3)

    def test_kinds_of_one_state(self):
        source = random.Random(3)
        for kind in ONES:
            words = list(words_of(kind, {1: 30, 2: 8, 3: 6, 4: 4}[kind[0]]))
            for _ in range(80):
                self.check_all(source, kind, words, source.choice([1, 2, 3]))

    def test_rings(self):
        source = random.Random(4)
        for _ in range(300):
            kind = ring_of(source, source.choice([1, 2, 2, 3]))
            words = some_words(kind, 150)
            self.check_all(source, kind, words, source.choice([2, 4, 8]))

    def test_the_ring_with_greater_numbers(self):
        source = random.Random(5)
        words = list(words_of(RING, 100))
        for _ in range(30):
            units = source.choice([((0, 1), (1, 0)), ((0, 1), (1, 1)), ((1, 1), (1, 0)), ((2, 1), (0, 3))])
            rows = [tuple(random_cut(source, units, 20) for _ in range(source.randint(0, 2))) for _ in range(2)]
            self.check_cuts(RING, words, units, rows[0], rows[1], (source.randrange(2), source.randint(0, 20)))
            self.check_limits(RING, words, (units[0], source.randint(0, 24)), (units[1], source.randint(0, 24)),
                              random_form(source, 2, -1, 9))
            self.check_parts(RING, words, units, random_cut(source, units, 20),
                             (source.randrange(2), source.randint(0, 24)))


class GreatNumbersTest(unittest.TestCase):
    """Answers with numbers that are beyond a look at all words, by plain reasons."""

    def test_overlong(self):
        for letters, kind in enumerate(ONES, start=1):
            for place, name in enumerate("abcd"[:letters]):
                # One letter alone counts in the unit of the limit, all others in that of the cut.
                only = tuple(1 if at == place else 0 for at in range(letters))
                rest = tuple(1 - count for count in only)
                for most in (0, 7, 20):
                    for cut in ((0, 20, ""), (0, 0, ""), (0, 5, "a")):
                        self.assertEqual(overlong(kind, (rest, only), (cut,), (1, most)), name * (most + 1))
                    self.assertIsNone(overlong(kind, (rest, only), ((0, 20, ""), (1, most, "")), (1, most)))
                    self.assertIsNone(overlong(kind, ((1,) * letters, only), ((0, most, ""),), (1, most)))
                    word = overlong(kind, ((1,) * letters, only), ((0, 20, ""),), (1, most))
                    self.assertEqual(word, name * (most + 1) if most < 20 else None)

    def test_overlong_of_the_ring(self):
        self.assertEqual(overlong(RING, ((0, 1), (1, 0)), ((0, 20, ""),), (1, 20)), "aaaaaaab" * 2 + "a" * 7)
        self.assertIsNone(overlong(RING, ((0, 1), (1, 0)), ((0, 1, ""),), (1, 14)))
        self.assertEqual(overlong(RING, ((0, 1), (1, 0)), ((0, 1, ""),), (1, 13)), "aaaaaaab" + "a" * 7)
        self.assertEqual(overlong(RING, ((0, 1), (1, 0)), ((1, 20, ""),), (0, 1)), "aaaaaaab" * 2)
        self.assertIsNone(overlong(RING, ((0, 1), (1, 0)), ((1, 20, ""),), (0, 2)))

    def test_most_kept(self):
        for most in (0, 1, 137, 200):
            words = {(0, 1): "aaaaaaab" * most + "a" * 7, (1, 0): ("aaaaaaab" * 29)[:most + most // 7]}
            self.assertEqual(most_kept(RING, ((0, 1), most), (1, 0)), ("most", 7 * most + 7, words[0, 1]))
            self.assertEqual(most_kept(RING, ((0, 1), most), (0, 1)), ("most", most, "aaaaaaab" * most))
            # Of words with equally many letters b, the shortest one ends with such a letter.
            self.assertEqual(most_kept(RING, ((1, 0), most), (0, 1)), ("most", most // 7, "aaaaaaab" * (most // 7)))
            self.assertEqual(most_kept(RING, ((0, 1), most), (-1, 8)), ("most", most, "aaaaaaab" * most))
            for letters, kind in enumerate(ONES, start=1):
                self.assertEqual(most_kept(kind, ((1,) * letters, most), tuple(range(1, letters + 1))),
                                 ("most", most * letters, "abcd"[letters - 1] * most))
            # Where letters c alone leave room, letters d in the place of some fill it.
            worth, word = {0: (0, ""), 1: (0, ""), 137: (109, "c" * 22 + "ddd"), 200: (160, "c" * 40)}[most]
            self.assertEqual(most_kept(ONES[3], ((3, 4, 5, 9), most), (2, 3, 4, 7)), ("most", worth, word))

    def test_breach(self):
        for most in (0, 1, 137, 200):
            self.assertEqual(breach(RING, ((0, 0), 0), ((0, 1), most)), "aaaaaaab" * (most + 1))
            self.assertIsNone(breach(RING, ((0, 1), most), ((0, 1), most)))
            self.assertIsNone(breach(RING, ((0, 1), most), ((1, 0), 7 * most + 7)))
            self.assertEqual(breach(RING, ((0, 1), most // 8), ((1, 0), 7 * (most // 8) + 6)),
                             "aaaaaaab" * (most // 8) + "a" * 7)
            self.assertEqual(breach(ONES[1], ((1, 0), most), ((0, 1), most)), "b" * (most + 1))
            self.assertEqual(breach(ONES[2], ((1, 0, 0), most), ((1, 1, 1), most)), "a" * most + "b")

    def test_most_parts(self):
        units = ((0, 1), (1, 0))
        for most in (0, 1, 27, 40):
            # Each round of eight letters is a part, and what follows the last one.
            self.assertEqual(most_parts(RING, units, (1, 7, ""), (0, most)),
                             ("most", most + 1, "aaaaaaab" * most + "a"))
            self.assertEqual(most_parts(RING, units, (1, 1, ""), (0, most)),
                             ("most", 7 * most + 7, "aaaaaaab" * most + "a" * 7))
            self.assertEqual(most_parts(RING, units, (0, 1, ""), (0, most)),
                             ("most", most, "aaaaaaab" * most) if most > 1 else ("most", 1, "a"))

    def test_unlike_cuts(self):
        units = ((0, 1), (1, 0))
        for most in (0, 1, 13, 20):
            self.assertEqual(unlike_cuts(RING, units, ((0, most, ""),), ()), "aaaaaaab" * (most + 1))
            self.assertEqual(unlike_cuts(RING, units, (), ((1, most, ""),)), ("aaaaaaab" * 3)[:most + 1 + most // 7])
            self.assertEqual(unlike_cuts(RING, units, ((0, most, ""),), ((0, most, "b"),)), "aaaaaaab" * (most + 1))
            self.assertIsNone(unlike_cuts(RING, units, ((0, most, ""),), ((0, most, "a"),)))


if __name__ == "__main__":
    unittest.main()
