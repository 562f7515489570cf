import copy
import inspect
import random
import re
import unittest

from samples import KINDS, broken, orders, random_kind, reordered, small_kinds, words_to
from unitlimits import words
from unitlimits.words import is_of, kind_error, used

EVERY = (1, ((0,),), (True,))
EIGHT = (4, ((0, 1, 2, 3), (4, 5, 6, 7), (7, None, 0, None)) + ((None,) * 4,) * 5, (True, False) * 4)


def is_integer(value, least, most):
    return type(value) is int and least <= value <= most


def right_rows(rows, letters):
    if type(rows) is not tuple or len(rows) not in range(1, 9):
        return False
    for row in rows:
        if type(row) is not tuple or len(row) != letters:
            return False
        for item in row:
            if item is not None and not is_integer(item, 0, len(rows) - 1):
                return False
    return True


def expected_error(value):
    """What kind_error must tell, by the words of the document alone."""
    if type(value) is not tuple or len(value) != 3:
        return "kind"
    if not is_integer(value[0], 1, 4):
        return "letters"
    if not right_rows(value[1], value[0]):
        return "rows"
    if type(value[2]) is not tuple or [type(end) for end in value[2]] != [bool] * len(value[1]):
        return "ends"
    return None


def path(kind, word):
    """The states of a word of the kind, None for another word."""
    states = [0]
    for letter in word:
        states.append(kind[1][states[-1]]["abcd".index(letter)])
        if states[-1] is None:
            return None
    return states if kind[2][states[-1]] else None


def used_by_words(kind):
    """The states of all words in which no state need be repeated on the way to it or on from it."""
    found = set()
    for word in words_to(kind[0], 2 * len(kind[1]) - 2):
        found.update(path(kind, word) or ())
    return tuple(sorted(found))


def used_by_ways(kind):
    """The same by the ways between all pairs of states."""
    _, rows, ends = kind
    states = range(len(rows))
    way = {(one, other): one == other or other in rows[one] for one in states for other in states}
    for over in states:
        for one in states:
            for other in states:
                way[one, other] = way[one, other] or way[one, over] and way[over, other]
    return tuple(at for at in states if way[0, at] and any(way[at, to] and ends[to] for to in states))


class ExampleTest(unittest.TestCase):
    def test_point_4(self):
        kind = (2, ((0, 1), (0, 2), (None, 2)), (True, True, False))
        self.assertEqual([kind_error(kind), kind_error((2, ((0, 3),), (True,))), is_of(kind, "abab"),
                          is_of(kind, "abb"), used(kind)], [None, "rows", True, False, (0, 1)])


class InterfaceTest(unittest.TestCase):
    def test_names_and_arguments(self):
        for name, names in (("kind_error", ["value"]), ("is_of", ["kind", "word"]), ("used", ["kind"])):
            with self.subTest(name=name):
                made = getattr(words, name)
                self.assertTrue(inspect.isfunction(made))
                self.assertEqual((made.__name__, made.__module__), (name, "unitlimits.words"))
                self.assertEqual(list(inspect.signature(made).parameters), names)

    def test_arguments_by_name(self):
        self.assertIsNone(kind_error(value=EVERY))
        self.assertIs(is_of(word="aa", kind=EVERY), True)
        self.assertEqual(used(kind=EVERY), (0,))


class KindErrorTest(unittest.TestCase):
    def check(self, value, error):
        before = copy.deepcopy(value)
        told = kind_error(value)
        self.assertEqual((told, type(told)), (error, type(error)), repr(value))
        # By repr, because 1 and True are equal.
        self.assertEqual(repr(value), repr(before))

    def test_kinds_of_all_sizes(self):
        for letters in range(1, 5):
            for states in range(1, 9):
                rows = [tuple((at + by) % states for by in range(letters)) for at in range(states)]
                ends = tuple(at % 3 == 0 for at in range(states))
                self.check((letters, tuple(rows), ends), None)
                self.check((letters, ((None,) * letters,) * states, (False,) * states), None)
                self.check((letters, ((states - 1,) * letters,) * states, (True,) * states), None)

    def test_kinds(self):
        for kind, _ in KINDS.values():
            self.check(kind, None)

    def test_small_kinds(self):
        for letters, states in ((1, 1), (4, 1), (1, 2), (2, 2)):
            for kind in small_kinds(letters, states):
                self.check(kind, None)

    def test_kind(self):
        letters, rows, ends = EVERY
        for value in (None, True, False, 0, 3, -1, 10 ** 59, "", "kind", "abc", (), [], {}, (1,), (letters, rows),
                      (rows, ends), EVERY + (None,), EVERY + ((),), EVERY + EVERY, (EVERY,), [EVERY], list(EVERY),
                      {"letters": letters, "rows": rows, "ends": ends}, {0: letters, 1: rows, 2: ends}, (9, 9)):
            self.check(value, "kind")

    def test_letters(self):
        _, rows, ends = EVERY
        for value in (0, 5, -1, 10 ** 59, -10 ** 59, True, False, None, "1", "a", "", (), (1,), [1], {1: 1}):
            self.check((value, rows, ends), "letters")

    def test_letters_go_with_rows(self):
        self.check((2, ((0,),), (True,)), "rows")
        self.check((1, ((0, 0),), (True,)), "rows")
        self.check((4, ((0, 0, 0),), (True,)), "rows")
        self.check((5, ((0,) * 5,), (True,)), "letters")
        self.check((0, ((),), (True,)), "letters")

    def test_rows(self):
        for value in (None, True, 1, 0, "", "0", (), [], {}, 10 ** 59, (0,), (None,), ("0",), ("a",), [(0,)],
                      ([0],), ({0: 0},), ((),), ((0, 0),), ((True,),), ((False,),), ((1,),), ((-1,),),
                      ((10 ** 59,),), (("0",),), (("",),), (((0,),),), (([],),), (({},),), (((),),), {(0,): (0,)}):
            self.check((1, value, (True,)), "rows")

    def test_one_wrong_row_among_many(self):
        for at in range(8):
            for row in (None, (), (0,), (0, 0, 0), [0, 0], (0, 8), (-1, 0), (0, True), (False, 0), "ab", 0):
                rows = [(at, None)] * 8
                rows[at] = row
                self.check((2, tuple(rows), (True,) * 8), "rows")

    def test_the_last_state_and_the_next_one(self):
        for states in range(1, 9):
            ends = (True,) * states
            self.check((1, ((states - 1,),) * states, ends), None)
            self.check((1, ((states,),) * states, ends), "rows")
            self.check((1, ((0,),) * (states - 1) + ((states,),), ends), "rows")

    def test_number_of_states(self):
        self.check((1, ((0,),) * 8, (True,) * 8), None)
        for states in (9, 10, 100):
            self.check((1, ((0,),) * states, (True,) * states), "rows")
            self.check((1, ((0,),) * states, (True,) * 8), "rows")

    def test_ends(self):
        for value in (None, True, 1, "", "T", (), [], {}, [True], (1,), (0,), (None,), ("True",), ("",), ((),),
                      ((True,),), ([True],), (True, True), (True, 1), {0: True}, {True: True}, 10 ** 59):
            self.check((1, ((0,),), value), "ends")

    def test_one_wrong_end_among_many(self):
        for at in range(8):
            for end in (0, 1, None, "True", (True,), [True]):
                ends = [True, False] * 4
                ends[at] = end
                self.check((1, ((0,),) * 8, tuple(ends)), "ends")
        for many in (0, 1, 7, 9, 16):
            self.check((1, ((0,),) * 8, (False,) * many), "ends")

    def test_the_first_that_applies(self):
        self.check((0, (), ()), "letters")
        self.check((None, None, None), "letters")
        self.check((1, None, None), "rows")
        self.check((1, ((0,),), None), "ends")
        self.check((0, (), (), ()), "kind")
        self.check([0, (), ()], "kind")
        self.check((5, ((0,),) * 9, (1,)), "letters")
        self.check((4, ((0,),) * 9, (1,)), "rows")

    def test_nested_values(self):
        deep = ()
        for _ in range(18):
            deep = (deep,)
        wide = [[0] * 70 for _ in range(70)]
        for value in (deep, [deep], {"a": deep}, wide, {"rows": wide}, "a" * 3500, "a\nb"):
            self.check(value, "kind")
            self.check((value, ((0,),), (True,)), "letters")
            self.check((1, value, (True,)), "rows")
            self.check((1, (value,), (True,)), "rows")
            self.check((1, ((value,),), (True,)), "rows")
            self.check((1, ((0,),), value), "ends")
            self.check((1, ((0,),), (value,)), "ends")

    def test_results_of_the_package(self):
        for value in (used(EVERY), kind_error(()), is_of(EVERY, ""), (used(EVERY),) * 3):
            self.check(value, expected_error(value))

    def test_broken_kinds(self):
        for kind in (EVERY, EIGHT, KINDS["turns"][0], KINDS["no bb"][0], KINDS["c at the end alone"][0]):
            for value in broken(kind):
                self.check(value, expected_error(value))

    def test_kinds_broken_twice(self):
        told = {}
        for value in broken(EVERY):
            for twice in broken(value):
                error = kind_error(twice)
                if error != expected_error(twice):
                    self.fail(repr(twice))
                told[error] = True
        self.assertEqual(set(told), {None, "kind", "letters", "rows", "ends"})


class IsOfTest(unittest.TestCase):
    def check(self, kind, word, answer):
        self.assertIs(is_of(kind, word), answer, (kind, word))

    def test_kinds_with_an_expression(self):
        for kind, expression in KINDS.values():
            for word in words_to(kind[0], 40 if kind[0] == 1 else 6):
                self.check(kind, word, re.fullmatch(expression, word) is not None)

    def test_small_kinds(self):
        for kind in small_kinds(2, 2):
            for word in words_to(2, 4):
                self.check(kind, word, path(kind, word) is not None)

    def test_words_that_stop_on_the_way(self):
        turns = KINDS["turns"][0]
        for word in ("b", "aa", "abb", "aab", "abaab", "ba"):
            self.check(turns, word, False)

    def test_words_whose_end_is_false(self):
        for word in ("a", "aba", "ababa"):
            self.check(KINDS["turns"][0], word, False)

    def test_the_empty_word(self):
        self.check((1, ((0,),), (True,)), "", True)
        self.check((1, ((0,),), (False,)), "", False)
        self.check((1, ((None,), (1,)), (True, False)), "", True)
        self.check((1, ((1,), (1,)), (False, True)), "", False)

    def test_the_first_state_is_0(self):
        self.check((1, ((1,), (None,)), (False, True)), "a", True)
        self.check((1, ((None,), (0,)), (True, False)), "a", False)

    def test_each_letter_has_its_item(self):
        kind = (4, ((1, 2, 3, 4),) + ((None,) * 4,) * 4, (False, True, False, True, False))
        for word, answer in (("a", True), ("b", False), ("c", True), ("d", False)):
            self.check(kind, word, answer)

    def test_long_words(self):
        turns, no_bb = KINDS["turns"][0], KINDS["no bb"][0]
        for many in (199, 200, 201, 5000):
            self.check(turns, "ab" * many, True)
            self.check(turns, "ab" * many + "a", False)
            self.check(turns, "ab" * many + "b", False)
            self.check(no_bb, "ab" * many, True)
            self.check(no_bb, "ab" * many + "ba", False)
            self.check(no_bb, "bb" + "ab" * many, False)
        for many in (391, 399, 400, 407):
            self.check(KINDS["sevens"][0], "a" * many, many % 8 == 7)

    def test_equal_calls(self):
        turns, every = KINDS["turns"][0], KINDS["every of four"][0]
        answers = [(is_of(turns, "ab"), is_of(every, "ab"), is_of(turns, "aab")) for _ in range(3)]
        self.assertEqual(answers, [(True, True, False)] * 3)


class UsedTest(unittest.TestCase):
    def check(self, kind, states):
        told = used(kind)
        self.assertEqual(told, states, kind)
        self.assertIs(type(told), tuple)
        self.assertEqual([type(state) for state in told], [int] * len(states))

    def test_by_hand(self):
        for name, states in (("every of one", (0,)), ("turns", (0, 1)), ("no bb", (0, 1)), ("d once", (0, 1)),
                             ("sevens", tuple(range(8))), ("one word", (0, 1, 2)), ("the empty word", (0,)),
                             ("the empty word, and a way to no end", (0,)), ("no word", ()),
                             ("no word, an end not come to", ())):
            self.check(KINDS[name][0], states)

    def test_states_that_no_word_comes_to(self):
        self.check((1, ((0,), (1,)), (True, True)), (0,))
        self.check((1, ((0,), (0,)), (True, True)), (0,))
        self.check((2, ((2, None), (2, 0), (None, 0)), (True, True, True)), (0, 2))

    def test_states_from_which_no_word_goes_on(self):
        self.check((1, ((1,), (1,)), (True, False)), (0,))
        self.check((2, ((1, 2), (1, 1), (2, None)), (False, False, True)), (0, 2))
        self.check((2, ((1, 2), (2, None), (None, 1)), (True, False, False)), (0,))

    def test_begin_and_end_count(self):
        self.check((1, ((1,), (None,)), (False, True)), (0, 1))
        self.check((1, ((None,), (None,)), (True, True)), (0,))

    def test_a_long_way(self):
        rows = tuple((at,) for at in range(1, 8)) + ((None,),)
        self.check((1, rows, (False,) * 7 + (True,)), tuple(range(8)))
        self.check((1, rows, (False,) * 4 + (True,) + (False,) * 3), (0, 1, 2, 3, 4))
        self.check((1, rows, (False,) * 8), ())

    def test_ascending_whatever_the_way(self):
        self.check((1, ((7,), (None,), (5,), (1,), (3,), (4,), (2,), (6,)), (False, True) + (False,) * 6),
                   tuple(range(8)))
        self.check((1, ((3,), (None,), (1,), (2,)), (False, True, False, False)), (0, 1, 2, 3))

    def test_all_small_kinds(self):
        for letters, states in ((1, 1), (2, 1), (1, 2), (2, 2), (1, 3)):
            for kind in small_kinds(letters, states):
                self.check(kind, used_by_words(kind))

    def test_three_states(self):
        for at, kind in enumerate(small_kinds(2, 3)):
            if at % 5 == 0:
                self.check(kind, used_by_words(kind))

    def test_many_kinds(self):
        source = random.Random(4)
        for _ in range(2000):
            kind = random_kind(source, source.randint(1, 4), source.randint(1, 8))
            self.assertIsNone(kind_error(kind))
            self.check(kind, used_by_ways(kind))

    def test_equal_calls(self):
        turns, none = KINDS["turns"][0], KINDS["no word"][0]
        self.assertEqual([(used(turns), used(none)) for _ in range(3)], [((0, 1), ())] * 3)


class OrderOfStatesTest(unittest.TestCase):
    def check(self, kind, places):
        other = reordered(kind, places)
        self.assertIsNone(kind_error(other))
        for word in words_to(kind[0], 5):
            self.assertIs(is_of(other, word), is_of(kind, word), (kind, places, word))
        self.assertEqual(used(other), tuple(sorted(places[state] for state in used(kind))), (kind, places))

    def test_kinds(self):
        for kind, _ in KINDS.values():
            for places in orders(len(kind[1]))[:24]:
                self.check(kind, places)

    def test_many_kinds(self):
        source = random.Random(8)
        for states in range(2, 9):
            for _ in range(20):
                kind = random_kind(source, source.randint(1, 3), states)
                self.check(kind, source.choice(orders(min(states, 6))) + tuple(range(6, states)))


class BeyondTheBoundsTest(unittest.TestCase):
    def test_more_states(self):
        rows = tuple((at,) for at in range(1, 20)) + ((None,),)
        kind = (1, rows, (False,) * 19 + (True,))
        self.assertEqual(used(kind), tuple(range(20)))
        self.assertIs(is_of(kind, "a" * 19), True)
        self.assertIs(is_of(kind, "a" * 20), False)

    def test_more_letters(self):
        kind = (5, ((None, None, None, None, 1), (None,) * 5), (False, True))
        self.assertEqual(used(kind), (0, 1))
        self.assertIs(is_of(kind, "e"), True)
        self.assertIs(is_of(kind, "d"), False)


if __name__ == "__main__":
    unittest.main()
