import random
import unittest

from samples import (KINDS, THIN, check_interface, check_ring, counted, is_word_of, line_of, random_form,
                     random_kind, small_kinds, sorts, timed, with_idle_states, words_of, words_to)
from unitlimits import forms
from unitlimits.forms import above, greatest, unlike, worth

EVERY = (2, ((0, 0),), (True,))
TURNS = (2, ((1, None), (None, 0)), (True, False))
LEAST = -10 ** 30


def ring_of(letters, ends):
    """A ring of as many states as the text has letters; a word may end in the states told."""
    many = len(letters)
    rows = tuple(tuple((at + 1) % many if letter == name else None for name in "abcd")
                 for at, letter in enumerate(letters))
    return 4, rows, tuple(at in ends for at in range(many))


def used_ways(kind, form):
    """For each pair of used states the greatest worth of a way of one step or more; no way has more than a ring."""
    _, rows, ends = kind
    states = range(len(rows))
    best = {}
    for state in states:
        for target, item in zip(rows[state], form):
            if target is not None:
                best[state, target] = max(item, best.get((state, target), item))
    for over in states:
        for one in states:
            for other in states:
                if (one, over) in best and (over, other) in best:
                    total = best[one, over] + best[over, other]
                    best[one, other] = max(total, best.get((one, other), total))
    reached = [at for at in states if at == 0 or (0, at) in best]
    taken = [at for at in reached if ends[at] or any((at, to) in best and ends[to] for to in states)]
    return {pair: best[pair] for pair in best if pair[0] in taken and pair[1] in taken}, taken


def plain_greatest(kind, form):
    """What greatest tells, with only "ring" for a ring: by the greatest of each length, words at its side."""
    _, rows, ends = kind
    ways, taken = used_ways(kind, form)
    if not taken:
        return ("none",)
    if any(ways.get((state, state), 0) > 0 for state in taken):
        return "ring"
    # The shortest word of the greatest worth comes to no state twice.
    level = {0: (0, "")}
    found = []
    for _ in rows:
        found.extend((-total, len(word), word) for state, (total, word) in level.items() if ends[state])
        after = {}
        for state, (total, word) in level.items():
            for at, target in enumerate(rows[state]):
                if target is not None:
                    other = (total + form[at], word + "abcd"[at])
                    if target not in after or (-other[0], other[1]) < (-after[target][0], after[target][1]):
                        after[target] = other
        level = after
    lost, _, word = min(found)
    return "most", -lost, word


def plain_above(kind, form, bound, longest):
    """The first word above the bound, up to a length, by the greatest worth that each number of letters can add."""
    _, rows, ends = kind
    adds = [{state: 0 for state, end in enumerate(ends) if end}]
    while 0 not in adds[-1] or adds[-1][0] <= bound:
        if len(adds) > longest:
            return None
        adds.append({})
        for state, row in enumerate(rows):
            more = [form[at] + adds[-2][target] for at, target in enumerate(row)
                    if target is not None and target in adds[-2]]
            if more:
                adds[-1][state] = max(more)
    word, state, total = "", 0, 0
    for further in adds[-2::-1]:
        at = min(at for at, target in enumerate(rows[state])
                 if target in further and total + form[at] + further[target] > bound)
        word, state, total = word + "abcd"[at], rows[state][at], total + form[at]
    return word


def plain_unlike(kind, one, other):
    """The first word with unlike worths: by all pairs of a state and a difference that words of each length have."""
    _, rows, ends = kind
    level = {(0, 0): ""}
    for _ in range(2 * len(rows)):
        found = [word for (state, gap), word in level.items() if ends[state] and gap != 0]
        if found:
            return min(found)
        after = {}
        for (state, gap), word in level.items():
            for at, target in enumerate(rows[state]):
                if target is not None:
                    node = (target, gap + one[at] - other[at])
                    after[node] = min(word + "abcd"[at], after.get(node, "~"))
        level = after
    return None


class ExampleTest(unittest.TestCase):
    def test_unlike_and_worth(self):
        every, turns = (2, ((0, 0),), (True,)), (2, ((1, None), (None, 0)), (True, False))
        self.assertEqual([worth((1, 3), "abba"), unlike(every, (1, 3), (2, 3)), unlike(turns, (1, 3), (2, 2)),
                          unlike(turns, (1, 3), (2, 1))], [8, "a", None, "ab"])

    def test_greatest_and_above(self):
        every, turns = (2, ((0, 0),), (True,)), (2, ((1, None), (None, 0)), (True, False))
        self.assertEqual([greatest(turns, (1, -1)), greatest(turns, (-2, 1)), greatest(every, (-1, -2)),
                          above(every, (2, -1), 3), above(turns, (2, -1), 3), above(turns, (1, -1), 0),
                          greatest((1, ((None,),), (False,)), (5,))],
                         [("most", 0, ""), ("most", 0, ""), ("most", 0, ""), "aa", "abababab", None, ("none",)])


class InterfaceTest(unittest.TestCase):
    def test_names_and_arguments(self):
        check_interface(self, forms, {
            "worth": ["form", "word"], "unlike": ["kind", "one", "other"], "greatest": ["kind", "form"],
            "above": ["kind", "form", "bound"], "paper": ["kind", "form", "bound"],
            "paper_holds": ["kind", "form", "bound", "value"]})

    def test_arguments_by_name(self):
        self.assertEqual(worth(word="ab", form=(1, 3)), 4)
        self.assertEqual(unlike(other=(2, 3), one=(1, 3), kind=EVERY), "a")
        self.assertEqual(greatest(form=(-1, -1), kind=EVERY), ("most", 0, ""))
        self.assertEqual(above(bound=3, form=(2, -1), kind=EVERY), "aa")


class WorthTest(unittest.TestCase):
    def test_words(self):
        source = random.Random(1)
        for letters in range(1, 5):
            for _ in range(30):
                form = random_form(source, letters, -99, 99)
                for word in words_to(letters, 3):
                    told = worth(form, word)
                    self.assertEqual((told, type(told)), (counted(form, word), int))

    def test_by_hand(self):
        for form, word, total in (((5,), "", 0), ((5,), "a", 5), ((-99,), "a" * 100, -9900), ((1, 3), "abba", 8),
                                  ((1, 10, 99, -99), "abcd", 11), ((0, 0, 0, 0), "abcdabcd", 0),
                                  ((99, -98), "ab" * 3000, 3000), ((1, 2, 3, 4), "d" * 400, 1600)):
            self.assertEqual(worth(form, word), total)


class UnlikeTest(unittest.TestCase):
    def check(self, kind, one, other, word):
        for told in (unlike(kind, one, other), unlike(kind, other, one)):
            self.assertEqual((told, type(told)), (word, type(word)), (kind, one, other))

    def test_forms_that_are_the_same(self):
        source = random.Random(2)
        for kind, _ in KINDS.values():
            form = random_form(source, kind[0], -99, 99)
            self.check(kind, form, form, None)
            self.check(kind, form, tuple(list(form)), None)

    def test_forms_that_differ_in_one_letter(self):
        for name, at, word in (("every of four", 0, "a"), ("every of four", 3, "d"), ("turns", 0, "ab"),
                               ("turns", 1, "ab"), ("c at the end alone", 2, "c"), ("c at the end alone", 0, "a"),
                               ("d once", 3, "d"), ("d once", 0, "ad"), ("d once", 2, "cd"), ("one word", 1, "ba"),
                               ("the empty word", 0, None), ("sevens", 0, "a" * 7), ("no word", 1, None),
                               ("the empty word, and a way to no end", 1, None)):
            kind, _ = KINDS[name]
            for form in ((0,) * kind[0], (99, -99, 7, 1)[:kind[0]], (-99,) * kind[0]):
                for by in (1, -1):
                    other = form[:at] + (form[at] + by,) + form[at + 1:]
                    if -99 <= other[at] <= 99:
                        self.check(kind, form, other, word)
            self.check(kind, (99,) * kind[0], (99,) * at + (-99,) + (99,) * (kind[0] - at - 1), word)

    def test_forms_that_are_alike_at_all_words(self):
        self.check(TURNS, (1, 3), (2, 2), None)
        self.check(TURNS, (99, -99), (-99, 99), None)
        self.check(ring_of("aabbcdcd", [0]), (1, 2, 3, 4), (2, 1, 0, 7), None)
        self.check(ring_of("aabb", [0, 2]), (1, 2, 0, 0), (1, 2, 5, 9), None)
        self.check(ring_of("abcdabcd", [4]), (1, 2, 3, 4), (4, 3, 2, 1), None)
        self.check(line_of("abcdabc"), (1, 1, 1, 5), (2, 2, 2, -1), None)
        self.check(line_of("aabbccd"), (9, 1, 1, 1), (8, 2, 1, 1), None)
        self.check(line_of("aabbccd"), (9, 1, 1, 1), (8, 1, 2, 1), None)

    def test_lines(self):
        for word in ("a", "dcba", "aaaaaaa", "abcdabd"):
            kind = line_of(word)
            for at in range(4):
                form = [1, 2, 3, 4]
                form[at] = 9
                self.check(kind, (1, 2, 3, 4), tuple(form), word if "abcd"[at] in word else None)

    def test_rings(self):
        kind = ring_of("aabbcdcd", [0, 5])
        self.check(kind, (1, 1, 1, 1), (2, 0, 1, 1), None)
        self.check(kind, (1, 1, 1, 1), (2, 0, 2, 1), "aabbc")
        self.check(kind, (1, 1, 1, 1), (2, 0, 1, 2), "aabbcdcd")
        self.check(kind, (1, 1, 1, 1), (0, 1, 3, 2), "aabbcdcd")
        self.check(ring_of("aaaaaaaa", [7]), (5,), (6,), "aaaaaaa")

    def test_the_longest_first_words(self):
        # With n states up to 2n - 1 letters: all words that come to no state twice are alike.
        self.check(ring_of("aabbcccd", [7]), (1, 2, 3, 4), (2, 1, 3, 5), "aabbcccdaabbccc")
        self.check(ring_of("aabbcccd", [7]), (1, 2, 3, 4), (2, 1, 3, 4), None)
        self.check(ring_of("abd", [2]), (1, 1, 0, 0), (0, 2, 0, 9), "abdab")
        self.check((2, ((1, None), (2, 1), (None, None)), (False, False, True)), (1, 0), (1, 5), "aba")
        self.check((2, ((1, None), (None, 2), (1, None)), (False, True, False)), (2, 0), (1, 1), "a")
        self.check((2, ((1, None), (None, 2), (1, None)), (False, False, True)), (2, 0), (1, 0), "ab")
        self.check((2, ((1, None), (None, 2), (1, None)), (False, False, True)), (2, 0), (1, 1), None)

    def test_small_kinds_against_all_words(self):
        for letters, states, pairs in ((1, 1, [((1,), (2,)), ((3,), (3,))]), (1, 2, [((1,), (0,))]),
                                       (2, 2, [((1, 2), (2, 1)), ((1, 2), (1, 0)), ((1, 2), (3, 3))])):
            for kind in small_kinds(letters, states):
                for one, other in pairs:
                    word = next((word for word in words_of(kind, 2 * states)
                                 if counted(one, word) != counted(other, word)), None)
                    self.check(kind, one, other, word)

    def test_many_kinds(self):
        source = random.Random(3)
        told = {}
        for _ in range(500):
            letters, states = source.randint(1, 4), source.randint(1, 8)
            if letters == 4:
                states = min(states, 5)
            kind = random_kind(source, letters, states)
            high = source.choice([1, 2, 99])
            one = random_form(source, letters, -high, high)
            other = source.choice([random_form(source, letters, -high, high), one[::-1],
                                   one[:-1] + (source.randint(-high, high),)])
            word = plain_unlike(kind, one, other)
            self.check(kind, one, other, word)
            self.check(with_idle_states(kind), one, other, word)
            told[word is None, one == other] = True
        self.assertEqual(len(told), 3)

    def test_kinds_without_words(self):
        for name in ("no word", "no word, an end not come to", "the empty word"):
            kind, _ = KINDS[name]
            self.check(kind, (1,) * kind[0], (2,) * kind[0], None)


class GreatestTest(unittest.TestCase):
    def check(self, kind, form):
        told, expected = greatest(kind, form), plain_greatest(kind, form)
        if expected == "ring":
            self.assertEqual(told[0], "ring", (kind, form))
            check_ring(self, kind, told, lambda word: True, lambda word: counted(form, word))
            self.assertGreater(counted(form, told[2]), 0)
        else:
            self.assertEqual((told, sorts(told)), (expected, sorts(expected)), (kind, form))
        self.assertEqual(greatest(kind, form), told)
        return told[0]

    def test_kinds_without_words(self):
        for name in ("no word", "no word, an end not come to"):
            for form in ((0, 0), (1, 1), (-1, -1), (99, -99)):
                self.assertEqual(greatest(KINDS[name][0], form), ("none",))
        self.assertEqual(greatest((1, ((0,),), (False,)), (99,)), ("none",))
        self.assertEqual(greatest((1, ((1,), (1,)), (False, False)), (99,)), ("none",))

    def test_by_hand(self):
        for kind, form, told in (
                (KINDS["the empty word"][0], (9,), ("most", 0, "")),
                (KINDS["one word"][0], (9, -20), ("most", -11, "ba")),
                (line_of("abcdabc"), (1, 2, 3, 4), ("most", 16, "abcdabc")),
                (line_of("abcdabc"), (-99, -99, -99, -99), ("most", -693, "abcdabc")),
                (line_of("aaaaaaa"), (99, 0, 0, 0), ("most", 693, "aaaaaaa")),
                (KINDS["sevens"][0], (-3,), ("most", -21, "aaaaaaa")),
                (KINDS["sevens"][0], (0,), ("most", 0, "aaaaaaa")),
                (KINDS["c at the end alone"][0], (-1, -1, 5), ("most", 5, "c")),
                (KINDS["c at the end alone"][0], (0, 0, 5), ("most", 5, "c")),
                (KINDS["d once"][0], (-1, 0, -1, -7), ("most", -7, "d")),
                ((2, ((1, 1), (None, None)), (False, True)), (5, 5), ("most", 5, "a")),
                ((2, ((1, 1), (None, None)), (False, True)), (5, 6), ("most", 6, "b")),
                ((2, ((1, 2), (2, None), (None, None)), (False, False, True)), (2, 4), ("most", 4, "b")),
                ((2, ((1, 2), (2, None), (None, None)), (False, False, True)), (2, 3), ("most", 4, "aa"))):
            self.assertEqual(greatest(kind, form), told)

    def test_rings(self):
        for letters, ends in (("aabbcdcd", [0]), ("aabbcdcd", [7]), ("aaaabbbb", [3, 6]), ("abcd", [2]), ("ab", [1])):
            kind = ring_of(letters, ends)
            for form in ((1, -1, 2, -2), (1, -1, 2, -1), (1, -1, 2, -3), (99, -99, -99, 99), (99, -98, -99, 99),
                         (99, -99, -99, 98), (0, 0, 0, 0), (0, 0, 0, 1), (-99, -99, -99, -99), (-99, 99, 99, -99)):
                total = counted(form, letters)
                self.assertEqual(self.check(kind, form), "ring" if total > 0 else "most", (letters, form))

    def test_a_ring_far_from_begin_and_end(self):
        rows = ((1, None, None), (2, None, None), (3, None, None), (None, 4, 5), (None, None, 3), (6, None, None),
                (7, None, None), (None, None, None))
        kind = (3, rows, (False,) * 7 + (True,))
        for form, name in (((-99, 2, -1), "ring"), ((-99, 1, -1), "most"), ((99, 1, -2), "most"),
                           ((0, 99, -98), "ring"), ((-99, -98, 99), "ring")):
            self.assertEqual(self.check(kind, form), name)

    def test_states_that_are_not_used(self):
        for kind, form in (((2, ((0, 1), (1, 1)), (True, False)), (-1, 99)),
                           ((2, ((0, 1), (1, 1)), (True, False)), (0, 9)),
                           ((1, ((None,), (1,)), (True, True)), (99,)), ((1, ((1,), (1,)), (True, False)), (99,)),
                           ((2, ((1, 2), (None, None), (2, 2)), (False, True, False)), (1, 1))):
            self.assertEqual(self.check(kind, form), "most")

    def test_small_kinds(self):
        told = {}
        for letters, states, tried in ((1, 1, [(0,), (1,), (-1,)]), (1, 2, [(0,), (1,), (-99,)]), (2, 1, [(1, -1)]),
                                       (2, 2, [(1, -1), (-1, 1), (-2, 1), (3, -1), (0, 0), (-1, -1), (0, 1)])):
            for kind in small_kinds(letters, states):
                for form in tried:
                    told[self.check(kind, form)] = True
        self.assertEqual(len(told), 3)

    def test_small_kinds_against_all_words(self):
        for form in ((1, -1), (-1, 1), (-2, 1), (3, -1), (0, 0), (-1, -1)):
            for kind in small_kinds(2, 2):
                words = list(words_of(kind, 6))
                told = greatest(kind, form)
                if told[0] == "none":
                    self.assertEqual(words, [])
                elif told[0] == "most":
                    best = max(counted(form, word) for word in words)
                    first = next(word for word in words if counted(form, word) == best)
                    self.assertEqual(told, ("most", best, first))

    def test_many_kinds(self):
        source = random.Random(5)
        told = {}
        for _ in range(3000):
            letters, states = source.randint(1, 4), source.randint(1, 8)
            kind = random_kind(source, letters, states)
            low, high = source.choice([(-99, 99), (-2, 2), (-1, 0), (0, 0), (1, 99), (-99, -1), (-99, 5), (-9, 2)])
            form = random_form(source, letters, low, high)
            name = self.check(kind, form)
            self.assertEqual(greatest(with_idle_states(kind), form)[0], name)
            told[name, low, high] = True
        self.assertGreaterEqual(len(told), 20)

    def test_thin_kinds(self):
        source = random.Random(6)
        for kind in THIN.values():
            for _ in range(60):
                self.check(kind, random_form(source, kind[0], -3, 2))
                self.check(kind, random_form(source, kind[0], -99, 99))


class AboveTest(unittest.TestCase):
    def check(self, kind, form, bound, longest):
        told, expected = above(kind, form, bound), plain_above(kind, form, bound, longest)
        self.assertEqual((told, type(told)), (expected, type(expected)), (kind, form, bound))

    def test_by_hand(self):
        for kind, form, bound, word in (
                (EVERY, (2, -1), 3, "aa"), (EVERY, (2, -1), -1, ""), (EVERY, (2, -1), 0, "a"),
                (EVERY, (-1, 1), 0, "b"), (EVERY, (1, 1), 2, "aaa"), (EVERY, (1, 2), 2, "ab"),
                (EVERY, (1, 2), 3, "bb"), (EVERY, (3, 4), 300, "aaa" + "b" * 73),
                (TURNS, (2, -1), 300, "ab" * 301), (TURNS, (99, -98), 299, "ab" * 300), (TURNS, (1, -1), -1, ""),
                (EVERY, (-1, -1), 0, None), (EVERY, (0, 0), 0, None), (EVERY, (0, 0), -1, ""),
                (KINDS["sevens"][0], (1,), 7, "a" * 15), (KINDS["sevens"][0], (1,), 6, "a" * 7),
                (KINDS["no word"][0], (99, 99), LEAST, None), (line_of("dab"), (-99, -99, 0, -99), LEAST, "dab"),
                (line_of("dab"), (-99, -99, 0, -99), -298, "dab"), (line_of("dab"), (-99, -99, 0, -99), -297, None)):
            self.assertEqual(above(kind, form, bound), word, (kind, form, bound))

    def test_the_first_of_the_shortest(self):
        # The first word is not the one with the greatest worth of its length.
        self.assertEqual(above(EVERY, (1, 9), 0), "a")
        self.assertEqual(above(EVERY, (1, 9), 8), "b")
        two = (2, ((1, 1), (2, 2), (None, None)), (False, False, True))
        self.assertEqual([above(two, (1, 9), bound) for bound in (1, 2, 9, 10, 17, 18)],
                         ["aa", "ab", "ab", "bb", "bb", None])
        ways = (2, ((1, 2), (3, None), (3, None), (None, None)), (False, False, False, True))
        self.assertEqual([above(ways, (1, 9), bound) for bound in (1, 2, 9, 10)], ["aa", "ba", "ba", None])

    def test_bounds(self):
        for kind in [kind for kind, _ in KINDS.values()] + list(THIN.values()):
            source = random.Random(7)
            for _ in range(5):
                form = random_form(source, kind[0], -3, 3)
                for bound in (LEAST, -10 ** 9, -50, -2, -1, 0, 1, 20):
                    self.check(kind, form, bound, 400)

    def test_the_greatest_worth_and_one_less(self):
        source = random.Random(8)
        checked = 0
        while checked < 400:
            kind = random_kind(source, source.randint(1, 4), source.randint(1, 8))
            form = random_form(source, kind[0], -99, source.choice([0, 2, 30]))
            told = plain_greatest(kind, form)
            if told[0] == "most":
                self.assertIsNone(above(kind, form, told[1]))
                self.assertEqual(above(kind, form, told[1] - 1), told[2])
                self.assertEqual(above(kind, form, LEAST), next(words_of(kind, 8)))
                self.check(kind, form, told[1] - 2, 40)
                checked += 1

    def test_small_kinds_against_all_words(self):
        for form in ((1, -1), (-2, 3), (2, 1), (0, 1), (-1, -1)):
            for kind in small_kinds(2, 2):
                for bound in (-2, 0, 1, 3):
                    told = above(kind, form, bound)
                    word = next((word for word in words_of(kind, 7) if counted(form, word) > bound), None)
                    if word is not None or told is None:
                        self.assertEqual(told, word, (kind, form, bound))
                    else:
                        self.assertTrue(len(told) > 7 and is_word_of(kind, told) and counted(form, told) > bound)

    def test_many_kinds(self):
        source = random.Random(9)
        told = {}
        for _ in range(600):
            letters = source.randint(1, 4)
            kind = random_kind(source, letters, source.randint(1, 8))
            low, high = source.choice([(-99, 99), (-2, 2), (-3, 1), (1, 99), (-99, -1), (0, 1), (-9, 2)])
            form = random_form(source, letters, low, high)
            for bound in (LEAST, source.randint(-300, 300), source.randint(-9, 9)):
                word = above(kind, form, bound)
                # No first word above is longer: each ring that grows does so by 1 in 8 letters at the least.
                expected = plain_above(kind, form, bound, 40 if word is None else len(word))
                self.assertEqual(word, expected, (kind, form, bound))
                self.assertEqual(above(with_idle_states(kind), form, bound), word)
                told[word is None] = told.get(word is None, 0) + 1
        self.assertGreater(min(told.values()), 100)

    def test_none_just_if_no_word_is_above(self):
        source = random.Random(10)
        for _ in range(1000):
            kind = random_kind(source, source.randint(1, 4), source.randint(1, 8))
            form = random_form(source, kind[0], -9, 9)
            told = plain_greatest(kind, form)
            if told == "ring":
                word = above(kind, form, 300)
                self.assertTrue(is_word_of(kind, word) and counted(form, word) > 300)
            else:
                bound = source.randint(-30, 30)
                self.assertEqual(above(kind, form, bound) is None, told[0] == "none" or told[1] <= bound)


class GreatestSizesTest(unittest.TestCase):
    def test_slow_rings(self):
        # Rings that grow by 1 in seven or eight letters, with a long way down to the end.
        for letters, form in (("aaaabbbc", (99, -99, -98, 0)), ("aabbaabc", (99, -99, -98, 0)),
                              ("aaabbbc", (-98, 98, 1, 0))):
            for end in range(len(letters)):
                kind = ring_of(letters, [end])
                self.assertEqual(counted(form, letters), 1)
                word = timed(above, kind, form, 300)
                self.assertTrue(is_word_of(kind, word) and counted(form, word) > 300)
                self.assertIsNone(plain_above(kind, form, 300, len(word) - 1))

    def test_full_kinds(self):
        source = random.Random(11)
        for _ in range(30):
            rows = tuple(tuple(source.randrange(8) for _ in range(4)) for _ in range(8))
            kind = (4, rows, tuple(source.random() < 0.5 for _ in range(7)) + (True,))
            for form in (random_form(source, 4, -99, 99), random_form(source, 4, -99, -90), (-1, 1, -99, 99)):
                timed(greatest, kind, form)
                timed(unlike, kind, form, random_form(source, 4, -99, 99))
                timed(above, kind, form, 300)
                timed(above, kind, form, LEAST)


class BeyondTheBoundsTest(unittest.TestCase):
    def test_more_letters_and_states(self):
        rows = tuple((None,) * 4 + (at,) for at in range(1, 20)) + ((None,) * 5,)
        kind = (5, rows, (False,) * 19 + (True,))
        form = (0, 0, 0, 0, 1000)
        self.assertEqual(greatest(kind, form), ("most", 19000, "e" * 19))
        self.assertEqual(above(kind, form, 18999), "e" * 19)
        self.assertIsNone(above(kind, form, 19000))
        self.assertEqual(unlike(kind, form, (0, 0, 0, 0, 999)), "e" * 19)
        self.assertEqual(worth(form, "ee"), 2000)


if __name__ == "__main__":
    unittest.main()
