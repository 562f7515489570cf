import copy
import random
import unittest

from samples import (KINDS, broken, counted, is_word_of, random_form, random_kind, small_kinds, sorts, timed,
                     with_idle_states)
from unitlimits.cuts import cuts_error, parts
from unitlimits.forms import above, greatest, paper, paper_holds
from unitlimits.words import used

TURNS = (2, ((1, None), (None, 0)), (True, False))
EVERY = (2, ((0, 0),), (True,))
LINE = (2, ((1, None), (2, 2), (None, None), (0, 0)), (False, False, True, True))
LEAST = -10 ** 30


def is_paper(kind, form, bound, value):
    """Whether a value is a paper, by the words of the document alone."""
    if type(value) is not tuple or len(value) != 2 or type(value[0]) is not str:
        return False
    if value[0] == "word":
        word = value[1]
        return (type(word) is str and set(word) <= set("abcd"[:kind[0]]) and is_word_of(kind, word)
                and counted(form, word) > bound)
    return value[0] == "heights" and are_heights(kind, form, bound, value[1])


def are_heights(kind, form, bound, heights):
    _, rows, ends = kind
    if type(heights) is not tuple or len(heights) != len(rows):
        return False
    states = used(kind)
    if [type(height) for height in heights] != [int if at in states else type(None) for at in range(len(rows))]:
        return False
    begin_is_right = 0 not in states or heights[0] >= 0
    steps_are_right = all(heights[target] >= heights[state] + item for state in states
                          for target, item in zip(rows[state], form) if target in states)
    return begin_is_right and steps_are_right and all(heights[at] <= bound for at in states if ends[at])


class ExampleTest(unittest.TestCase):
    def test_point_6(self):
        turns = (2, ((1, None), (None, 0)), (True, False))
        self.assertEqual([paper_holds(turns, (1, -1), 0, ("heights", (0, 1))),
                          paper_holds(turns, (1, -1), 0, ("heights", (0, 0))),
                          paper_holds(turns, (1, -1), -1, ("word", "ab")),
                          paper_holds(turns, (1, -1), 0, paper(turns, (1, -1), 0)),
                          paper_holds(turns, (2, -1), 5, paper(turns, (2, -1), 5))], [True, False, True, True, True])


class InterfaceTest(unittest.TestCase):
    def test_arguments_by_name(self):
        told = paper(bound=0, form=(1, -1), kind=TURNS)
        self.assertIs(paper_holds(value=told, bound=0, form=(1, -1), kind=TURNS), True)


class PaperTest(unittest.TestCase):
    def check(self, kind, form, bound):
        told = paper(kind, form, bound)
        self.assertEqual(told[0], "heights" if above(kind, form, bound) is None else "word", (kind, form, bound))
        self.assertEqual(sorts(told)[0], tuple)
        self.assertTrue(is_paper(kind, form, bound, told), (kind, form, bound, told))
        self.assertIs(paper_holds(kind, form, bound, told), True)
        self.assertEqual(paper(kind, form, bound), told)
        return told[0]

    def test_kinds(self):
        for kind, _ in KINDS.values():
            for form in ((0,) * 4, (1, -1, 0, 2), (99, -99, 99, -99), (-1, -2, -3, -4), (-99,) * 4, (99,) * 4):
                for bound in (LEAST, -694, -9, -1, 0, 1, 9, 300):
                    self.check(kind, form[:kind[0]], bound)

    def test_small_kinds(self):
        for kind in small_kinds(2, 2):
            for form in ((1, -1), (-2, 1), (0, 0)):
                for bound in (-1, 0, 2):
                    self.check(kind, form, bound)

    def test_the_greatest_worth_and_one_less(self):
        source = random.Random(1)
        checked = 0
        while checked < 300:
            kind = random_kind(source, source.randint(1, 4), source.randint(1, 8))
            form = random_form(source, kind[0], -99, source.choice([-1, 2, 40]))
            told = greatest(kind, form)
            if told[0] == "most":
                self.assertEqual(self.check(kind, form, told[1]), "heights")
                self.assertEqual(self.check(kind, form, told[1] - 1), "word")
                checked += 1

    def test_many_kinds(self):
        source = random.Random(2)
        told = {}
        for _ in range(1500):
            kind = random_kind(source, source.randint(1, 4), source.randint(1, 8))
            form = random_form(source, kind[0], *source.choice([(-99, 99), (-2, 1), (-9, 0), (1, 9)]))
            bound = source.choice([LEAST, -100, -3, -1, 0, 1, 5, 50, 300])
            name = self.check(kind, form, bound)
            self.assertEqual(self.check(with_idle_states(kind), form, bound), name)
            told[name, bound] = True
        self.assertGreaterEqual(len(told), 17)

    def test_kinds_without_words(self):
        for kind in (KINDS["no word"][0], KINDS["no word, an end not come to"][0]):
            self.assertEqual(paper(kind, (9, 9), LEAST), ("heights", (None,) * len(kind[1])))
            self.assertIs(paper_holds(kind, (9, 9), LEAST, ("heights", (None,) * len(kind[1]))), True)
            self.assertIs(paper_holds(kind, (9, 9), 0, ("heights", (0,) * len(kind[1]))), False)
            self.assertIs(paper_holds(kind, (9, 9), LEAST, ("word", "")), False)

    def test_full_kinds(self):
        source = random.Random(3)
        for _ in range(20):
            rows = tuple(tuple(source.randrange(8) for _ in range(4)) for _ in range(8))
            kind = (4, rows, (False,) * 7 + (True,))
            for form in (random_form(source, 4, -99, 99), random_form(source, 4, -99, 0)):
                for bound in (LEAST, 0, 300):
                    self.assertIs(paper_holds(kind, form, bound, timed(paper, kind, form, bound)), True)


class PaperHoldsTest(unittest.TestCase):
    def check(self, kind, form, bound, value):
        before = repr(value)
        told = paper_holds(kind, form, bound, value)
        self.assertIs(told, is_paper(kind, form, bound, value), (kind, form, bound, value))
        self.assertEqual(repr(value), before)
        return told

    def test_papers_of_others(self):
        for kind, form, bound, value in (
                (TURNS, (1, -1), 0, ("heights", (0, 1))), (TURNS, (1, -1), 5, ("heights", (5, 6))),
                (TURNS, (1, -1), 5, ("heights", (5, 6))), (TURNS, (1, -1), 5, ("heights", (3, 4))),
                (TURNS, (-2, 1), 5, ("heights", (0, -1))), (TURNS, (-2, 1), 5, ("heights", (5, 4))),
                (TURNS, (-2, 1), 5, ("heights", (5, 3))), (TURNS, (-2, 1), 0, ("heights", (0, -2))),
                (EVERY, (-1, 0), 0, ("heights", (0,))), (EVERY, (-1, 0), 300, ("heights", (300,))),
                (LINE, (2, 3), 5, ("heights", (0, 2, 5, None))), (LINE, (2, 3), 9, ("heights", (4, 6, 9, None))),
                (LINE, (2, 3), 9, ("heights", (0, 6, 9, None))), (LINE, (2, 3), 9, ("heights", (0, 2, 9, None))),
                (LINE, (2, 3), 4, ("word", "ab")), (LINE, (2, 3), 3, ("word", "aa")),
                (LINE, (2, 3), 3, ("word", "ab")),
                (LINE, (2, 3), LEAST, ("word", "aa")), (EVERY, (1, 1), 3, ("word", "abababababab")),
                (EVERY, (1, 1), 3, ("word", "bbbb")), (EVERY, (5, -5), -1, ("word", "")),
                (EVERY, (5, -5), -1, ("word", "ab")), (TURNS, (99, -98), 300, ("word", "ab" * 400))):
            self.assertTrue(self.check(kind, form, bound, value), (kind, form, bound, value))

    def test_heights_that_are_wrong(self):
        for kind, form, bound, heights in (
                (TURNS, (1, -1), 0, (0, 0)), (TURNS, (1, -1), 0, (0, 2)), (TURNS, (1, -1), -1, (0, 1)),
                (TURNS, (1, -1), 0, (-1, 0)), (TURNS, (1, -1), 0, (1, 2)), (TURNS, (1, -1), 5, (6, 7)),
                (TURNS, (1, -1), 0, (0, None)), (TURNS, (1, -1), 0, (None, 1)), (TURNS, (1, -1), 0, (0, True)),
                (TURNS, (1, -1), 0, (False, 1)), (TURNS, (1, -1), 0, (0, "1")), (TURNS, (1, -1), 0, (0,)),
                (TURNS, (1, -1), 0, (0, 1, 1)), (TURNS, (1, -1), 0, (0, 1, None)), (TURNS, (1, -1), 0, ()),
                (TURNS, (1, -1), 0, [0, 1]), (TURNS, (1, -1), 0, {0: 0, 1: 1}), (TURNS, (1, -1), 0, None),
                (TURNS, (1, -1), 0, "01"), (TURNS, (1, -1), 0, 0), (TURNS, (1, -1), 0, ((0,), (1,))),
                (TURNS, (1, -1), 0, (0, (1,))), (EVERY, (1, -1), 300, (300,)), (EVERY, (0, 1), 300, (0,)),
                (LINE, (2, 3), 5, (0, 2, 4, None)), (LINE, (2, 3), 5, (0, 1, 5, None)),
                (LINE, (2, 3), 5, (0, 3, 5, None)), (LINE, (2, 3), 5, (0, 2, 5, 0)), (LINE, (2, 3), 5, (0, 2, 5, 99)),
                (LINE, (2, 3), 5, (0, 2, 5, False)), (LINE, (2, 3), 5, (0, 2, 5)), (LINE, (2, 3), 4, (0, 2, 5, None)),
                (LINE, (2, 3), 4, (-1, 1, 4, None))):
            self.assertFalse(self.check(kind, form, bound, ("heights", heights)), (kind, form, bound, heights))

    def test_words_that_are_wrong(self):
        for word in ("a", "ba", "aba", "", "abc", "ac", "ab ", "ab\n", "AB", " ab", "a`", "ab" * 50 + "a", None, True,
                     0, ("ab",), ("a", "b"), ["a", "b"], {"a": "b"}):
            self.assertFalse(self.check(TURNS, (2, -1), 0, ("word", word)), word)
        for kind, form, bound, word in (
                (TURNS, (2, -1), 1, "ab"), (EVERY, (1, 1), 0, "c"), (EVERY, (1, 1), 0, "d"), (EVERY, (1, 1), 0, "~"),
                (EVERY, (1, 1), 3, "aaa"), (LINE, (2, 3), 3, "a"), (LINE, (2, 3), 3, "abb"), (LINE, (2, 3), 3, "ba"),
                (LINE, (2, 3), 3, "bb")):
            self.assertFalse(self.check(kind, form, bound, ("word", word)), (kind, form, bound, word))

    def test_other_bounds_and_forms(self):
        heights = ("heights", (0, 1))
        self.assertFalse(self.check(TURNS, (2, -2), 0, heights))
        self.assertFalse(self.check(TURNS, (1, 0), 0, heights))
        self.assertTrue(self.check(TURNS, (1, -2), 0, heights))
        self.assertTrue(self.check(TURNS, (1, -1), 300, heights))
        self.assertFalse(self.check(TURNS, (1, -1), LEAST, heights))
        word = ("word", "abab")
        self.assertEqual([self.check(TURNS, (3, -1), bound, word) for bound in (LEAST, 0, 3, 4, 5, 300)],
                         [True, True, True, False, False, False])
        self.assertFalse(self.check(TURNS, (1, -1), 0, word))

    def test_names(self):
        for name in ("words", "Word", "word ", "", "height", "Heights", "none", "most", None, 0, True, ("word",), [],
                     {}):
            self.assertFalse(self.check(TURNS, (1, -1), -1, (name, "ab")))
            self.assertFalse(self.check(TURNS, (1, -1), 0, (name, (0, 1))))
        self.assertFalse(self.check(TURNS, (1, -1), -1, ("heights", "ab")))
        self.assertFalse(self.check(TURNS, (1, -1), 0, ("word", (0, 1))))

    def test_values_of_other_kinds(self):
        deep = ()
        for _ in range(18):
            deep = (deep,)
        for value in (None, True, False, 0, 10 ** 59, "", "word", "heights", "a" * 3500, (), [], {}, ("word",),
                      ("heights",), ("word", "ab", "ab"), ("heights", (0, 1), (0, 1)), ["word", "ab"],
                      ["heights", (0, 1)], {"word": "ab"}, {"heights": (0, 1)}, {0: "word", 1: "ab"}, deep, [deep],
                      (("word", "ab"),),
                      ("word", deep), ("heights", deep), ("heights", (deep, deep)), [[0] * 70] * 70, ("ab", "word"),
                      greatest(TURNS, (1, -1)), used(TURNS), above(TURNS, (1, -1), -1),
                      cuts_error(2, ((1, 1),), None), parts(((1, 1),), (0, 1, ""), "ab")):
            self.assertFalse(self.check(TURNS, (1, -1), -1, value))
            self.assertFalse(self.check(TURNS, (1, -1), 0, value))

    def test_integers_of_many_digits(self):
        far = 10 ** 59
        self.assertFalse(self.check(TURNS, (1, -1), 300, ("heights", (far, far + 1))))
        self.assertFalse(self.check(TURNS, (1, -1), 300, ("heights", (-far, 1 - far))))
        self.assertFalse(self.check(LINE, (2, 3), 300, ("heights", (0, far, 5, None))))
        self.assertFalse(self.check(LINE, (2, 3), 300, ("heights", (0, -far, 5, None))))
        idle = (1, ((1,), (None,)), (False, True))
        self.assertFalse(self.check(idle, (1,), 300, ("heights", (0, far))))

    def test_papers_with_a_part_otherwise(self):
        source = random.Random(4)
        told = {}
        for _ in range(60):
            kind = random_kind(source, source.randint(1, 4), source.randint(1, 8))
            form = random_form(source, kind[0], *source.choice([(-99, 99), (-2, 1), (-9, 0)]))
            bound = source.choice([-3, -1, 0, 1, 5, 50, 300])
            value = paper(kind, form, bound)
            for other in broken(value):
                told[value[0], self.check(kind, form, bound, other)] = True
            if value[0] == "heights":
                for at, height in enumerate(value[1]):
                    for by in (-9, -1, 1, 9):
                        if height is not None:
                            heights = value[1][:at] + (height + by,) + value[1][at + 1:]
                            told["moved", self.check(kind, form, bound, ("heights", heights))] = True
            else:
                for at in range(len(value[1])):
                    for letter in "abcde\n":
                        word = value[1][:at] + letter + value[1][at + 1:]
                        told["exchanged", self.check(kind, form, bound, ("word", word))] = True
        self.assertGreaterEqual(len(told), 7)

    def test_heights_a_step_too_low(self):
        # Each bound of the heights told is needed: a height one lower, and what depends on nothing else, is refused.
        rows = ((1, 2), (3, 3), (3, None), (None, None))
        kind = (2, rows, (False, False, False, True))
        right = (0, 1, 10, 11)
        self.assertTrue(self.check(kind, (1, 10), 11, ("heights", right)))
        for at in range(4):
            lower = right[:at] + (right[at] - 1,) + right[at + 1:]
            self.assertFalse(self.check(kind, (1, 10), 11, ("heights", lower)))
        self.assertFalse(self.check(kind, (1, 10), 10, ("heights", right)))

    def test_steps_to_states_that_are_not_used(self):
        # State 1 is come to, but leads to no end; state 2 leads to one, but no word comes to it.
        kind = (2, ((0, 1), (1, 1), (0, 0)), (True, False, True))
        self.assertTrue(self.check(kind, (0, 99), 0, ("heights", (0, None, None))))
        self.assertFalse(self.check(kind, (0, 99), 0, ("heights", (0, 99, 0))))
        self.assertFalse(self.check(kind, (0, 99), 0, ("heights", (0, None, 0))))
        self.assertEqual(paper(kind, (0, 99), 0), ("heights", (0, None, None)))

    def test_the_value_stays_as_it_is(self):
        value = ("heights", [0, {"a": [1, None]}])
        before = copy.deepcopy(value)
        self.assertIs(paper_holds(TURNS, (1, -1), 0, value), False)
        self.assertEqual(value, before)

    def test_what_is_accepted_is_so(self):
        source = random.Random(5)
        accepted = 0
        for _ in range(3000):
            kind = random_kind(source, source.randint(1, 2), source.randint(1, 3))
            form = random_form(source, kind[0], -1, 1)
            bound = source.randint(-1, 1)
            heights = tuple(source.choice([None, -1, 0, 0, 1, 1, 2]) for _ in kind[1])
            if self.check(kind, form, bound, ("heights", heights)):
                accepted += 1
                self.assertIsNone(above(kind, form, bound))
        self.assertGreater(accepted, 50)


class BeyondTheBoundsTest(unittest.TestCase):
    def test_more_letters_and_states(self):
        rows = tuple((None,) * 4 + (at,) for at in range(1, 20)) + ((None,) * 5,)
        kind = (5, rows, (False,) * 19 + (True,))
        told = paper(kind, (0, 0, 0, 0, 7), 133)
        self.assertEqual(told[0], "heights")
        self.assertIs(paper_holds(kind, (0, 0, 0, 0, 7), 133, told), True)
        self.assertEqual(paper(kind, (0, 0, 0, 0, 7), 132), ("word", "e" * 19))
        self.assertIs(paper_holds(kind, (0, 0, 0, 0, 7), 132, ("word", "e" * 19)), True)
        self.assertIs(paper_holds(kind, (0, 0, 0, 0, 7), 132, ("word", "f" * 19)), False)


if __name__ == "__main__":
    unittest.main()
