import random
import unittest

from samples import (borders, broken, check_interface, counted, is_number, plain_left, plain_parts, random_cut,
                     random_units, sorts, words_to)
from unitlimits import cuts
from unitlimits.cuts import cuts_error, left, overlong, parts, unlike_cuts
from unitlimits.words import kind_error, used

EVERY = (3, ((0, 0, 0),), (True,))
UNITS = ((1, 1, 1), (1, 3, 2))


def is_cut(letters, units, value):
    """Whether a value is a cut, by the words of the document alone."""
    if type(value) is not tuple or len(value) != 3 or not is_number(value[0], 0, len(units) - 1):
        return False
    if not is_number(value[1], 0, 20) or type(value[2]) is not str:
        return False
    names = "abcd"[:letters]
    return value[2] == "".join(name for name in names if name in value[2])


def expected_error(letters, units, value):
    if type(value) is not tuple:
        return None, "cuts"
    for index, item in enumerate(value):
        if not is_cut(letters, units, item):
            return index, "cut"
    return (None, "many") if len(value) > 3 else None


def fewest_parts(units, cut, word):
    """The least number of texts, not empty, in which the word can be parted at borders; None if there is no way."""
    unit, most, _ = cut
    places = borders(cut, word)
    fewest = {0: 0}
    for place in places[1:] if word else []:
        ways = [fewest[ahead] + 1 for ahead in places
                if ahead < place and ahead in fewest and counted(units[unit], word[ahead:place]) <= most]
        if ways:
            fewest[place] = min(ways)
    return fewest.get(len(word))


class ExampleTest(unittest.TestCase):
    def test_point_8(self):
        units = ((1, 1, 1), (1, 3, 2))
        self.assertEqual([cuts_error(3, units, ((1, 5, "c"), (0, 2, ""))), cuts_error(3, units, ((2, 5, ""),)),
                          left(units, ((1, 5, "c"),), "abca"), left(units, ((1, 5, ""),), "abca"),
                          left(units, ((1, 6, "c"), (0, 2, "")), "abca")], [None, (0, "cut"), "a", "ab", "ab"])
        self.assertEqual([parts(units, (1, 5, "c"), "aabcaab"), parts(units, (1, 4, "c"), "aabc"),
                          parts(units, (0, 0, ""), "")], [("aa", "bc", "aab"), None, ()])


class InterfaceTest(unittest.TestCase):
    def test_names_and_arguments(self):
        check_interface(self, cuts, {
            "cuts_error": ["letters", "units", "value"], "left": ["units", "cuts", "word"],
            "parts": ["units", "cut", "word"], "unlike_cuts": ["kind", "units", "one", "other"],
            "overlong": ["kind", "units", "cuts", "limit"]})

    def test_arguments_by_name(self):
        self.assertEqual(cuts_error(value=None, units=UNITS, letters=3), (None, "cuts"))
        self.assertEqual(left(word="abca", cuts=((1, 5, "c"),), units=UNITS), "a")
        self.assertEqual(parts(word="aabcaab", cut=(1, 5, "c"), units=UNITS), ("aa", "bc", "aab"))
        self.assertEqual(unlike_cuts(other=((0, 1, ""),), one=((0, 1, "c"),), units=UNITS, kind=EVERY), "ac")
        self.assertEqual(overlong(limit=(1, 5), cuts=((0, 2, ""),), units=UNITS, kind=EVERY), "bb")


class CutsErrorTest(unittest.TestCase):
    def check(self, letters, units, value, error):
        before = repr(value)
        told = cuts_error(letters, units, value)
        self.assertEqual((told, sorts(told)), (error, sorts(error)), repr(value))
        self.assertEqual(repr(value), before)

    def test_cuts(self):
        for letters in range(1, 5):
            for many in (1, 2):
                units = (tuple(range(1, letters + 1)),) * many
                for unit in range(many):
                    for most in range(21):
                        for clings in ("", "a", "abcd"[:letters], "abcd"[letters - 1]):
                            for times in range(4):
                                self.check(letters, units, ((unit, most, clings),) * times, None)

    def test_letters_that_cling(self):
        for letters in range(1, 5):
            for clings in ["".join(names) for names in words_to(5, 3)] + ["abcd", "abdc", "abcde", "aabcd", "dcba"]:
                is_right = clings == "".join(sorted(set(clings))) and set(clings) <= set("abcd"[:letters])
                self.check(letters, ((1,) * letters,), ((0, 5, clings),), None if is_right else (0, "cut"))

    def test_not_a_tuple(self):
        cut = (0, 2, "")
        for value in (None, True, False, 0, 3, 10 ** 59, "", "cuts", "abc", [], [cut], [[0, 2, ""]], {}, {0: cut},
                      {cut: True}, [cut] * 4):
            self.check(3, UNITS, value, (None, "cuts"))

    def test_items_that_are_no_cuts(self):
        right = (1, 5, "c")
        for item in (None, True, 0, "", "cut", "abc", (), (0,), (0, 2), (0, 2, "", ""), [0, 2, ""],
                     {0: 0, 1: 2, 2: ""}, ((0, 2, ""),), (2, 2, ""), (-1, 2, ""), (10 ** 59, 2, ""), (True, 2, ""),
                     (False, 2, ""), (None, 2, ""), ("0", 2, ""), ("", 2, ""), ((0,), 2, ""), (0, 21, ""), (0, -1, ""),
                     (0, 10 ** 59, ""), (0, -10 ** 59, ""), (0, True, ""), (0, False, ""), (0, None, ""), (0, "2", ""),
                     (0, (2,), ""), (0, [], ""), (0, 2, None), (0, 2, True), (0, 2, 0), (0, 2, ()), (0, 2, ("a",)),
                     (0, 2, ["a"]), (0, 2, {"a": True}), (0, 2, "d"), (0, 2, "ba"), (0, 2, "aa"), (0, 2, "abcc"),
                     (0, 2, "A"), (0, 2, "-"), (0, 2, " "), (0, 2, "a\n"), (0, 2, "a b"), (0, 2, "abcd"), (0, 2, "`"),
                     (0, 2, "a" * 3500), ("", 2, 0), (2, 0, "a")):
            for at in range(3):
                items = [right] * 3
                items[at] = item
                self.check(3, UNITS, tuple(items), (at, "cut"))
            self.check(3, UNITS, (item,), (0, "cut"))

    def test_many(self):
        cut = (0, 2, "")
        for times in (4, 5, 20, 1000):
            self.check(3, UNITS, (cut,) * times, (None, "many"))
            self.check(3, UNITS, ((1, 20, "abc"), (0, 0, ""), cut, cut)[:4] + (cut,) * times, (None, "many"))

    def test_the_first_that_applies(self):
        cut, wrong = (0, 2, ""), (0, 2, "d")
        self.check(3, UNITS, (cut, wrong, wrong), (1, "cut"))
        self.check(3, UNITS, (cut, cut, cut, wrong), (3, "cut"))
        self.check(3, UNITS, (cut,) * 9 + (wrong,), (9, "cut"))
        self.check(3, UNITS, (wrong,) * 9, (0, "cut"))
        self.check(3, UNITS, [wrong] * 9, (None, "cuts"))

    def test_units_and_letters_matter(self):
        for value in (((0, 2, "a"),), ((1, 2, "a"),), ((0, 2, "b"),), ((0, 2, "d"),), ((0, 2, ""), (1, 2, ""))):
            for letters in range(1, 5):
                for many in (1, 2):
                    units = ((0,) * letters,) * many
                    self.check(letters, units, value, expected_error(letters, units, value))

    def test_values_of_other_kinds(self):
        deep = ()
        for _ in range(18):
            deep = (deep,)
        for value in (deep, (deep,), ((0, deep, ""),), ((0, 2, deep),), (((0, 2, ""),),), used(EVERY), kind_error(()),
                      (cuts_error(3, UNITS, None),), parts(UNITS, (0, 1, ""), "abc"), ((0,) * 70,) * 70, [deep],
                      {"a": deep}, ("a",) * 3000, tuple(range(5000))):
            self.check(3, UNITS, value, expected_error(3, UNITS, value))

    def test_broken_cuts(self):
        told = {}
        for letters, units, value in ((3, UNITS, ((1, 5, "c"), (0, 2, ""), (0, 20, "abc"))),
                                      (1, ((1,),), ((0, 0, "a"),)),
                                      (4, ((1, 2, 3, 4), (0, 0, 0, 0)), ((1, 20, "abd"), (1, 7, "")))):
            for other in broken(value):
                error = expected_error(letters, units, other)
                self.check(letters, units, other, error)
                told[error] = True
        for other in broken(((0, 1, "a"),)):
            for twice in broken(other):
                error = expected_error(3, UNITS, twice)
                if cuts_error(3, UNITS, twice) != error:
                    self.fail(repr(twice))
                told[error] = True
        self.assertLessEqual({None, (None, "cuts"), (0, "cut"), (1, "cut"), (2, "cut"), (None, "many")}, set(told))


class LeftTest(unittest.TestCase):
    def check(self, units, row, word, expected):
        told = left(units, row, word)
        self.assertEqual((told, type(told)), (expected, str), (units, row, word))

    def test_by_hand(self):
        for row, word, expected in (
                ((), "", ""), ((), "abcabc", "abcabc"), (((0, 2, ""),), "", ""), (((0, 0, ""),), "abc", ""),
                (((0, 2, ""),), "abc", "ab"), (((0, 3, ""),), "abc", "abc"), (((0, 20, ""),), "abc", "abc"),
                (((0, 2, "c"),), "abc", "a"), (((0, 2, "c"),), "abcb", "a"), (((0, 2, "bc"),), "abc", ""),
                (((0, 2, "a"),), "abc", "ab"), (((0, 3, "abc"),), "abc", "abc"), (((0, 2, "abc"),), "abc", ""),
                (((0, 2, "a"),), "aab", "aa"), (((0, 1, "a"),), "aab", ""), (((0, 1, "a"),), "ba", ""),
                (((0, 2, "c"),), "accccb", ""), (((0, 2, "c"),), "abccccb", "a"), (((0, 6, "c"),), "abccccb", "abcccc"),
                (((1, 6, "c"), (0, 2, "")), "abca", "ab"), (((0, 2, ""), (1, 3, "")), "abca", "a"),
                (((1, 3, ""), (0, 2, "")), "abca", "a"), (((0, 2, ""), (0, 2, "c")), "abca", "ab"),
                (((0, 3, ""), (0, 2, "c")), "abca", "a"), (((0, 2, ""), (0, 1, ""), (0, 0, "")), "abca", "")):
            self.check(UNITS, row, word, expected)

    def test_the_end_of_what_a_cut_leaves_is_a_border(self):
        # The second cut takes nothing away, though "c" clings to what the first one leaves.
        self.check(UNITS, ((0, 2, ""), (0, 2, "c")), "aac", "aa")
        self.check(UNITS, ((0, 2, "c"),), "aac", "a")
        self.check(UNITS, ((0, 2, "c"), (0, 2, "")), "aac", "a")

    def test_counts_of_0(self):
        units = ((1, 0), (0, 0))
        for row, word, expected in ((((0, 0, ""),), "bbb", "bbb"), (((0, 0, ""),), "bbabb", "bb"),
                                    (((0, 1, ""),), "abbb", "abbb"), (((0, 1, ""),), "abbab", "abb"),
                                    (((0, 1, "a"),), "abbab", "ab"), (((0, 1, "ab"),), "abbab", ""),
                                    (((0, 1, "b"),), "abbab", "abb"), (((1, 0, ""),), "ababab", "ababab"),
                                    (((1, 0, "ab"),), "ababab", "ababab"), (((0, 0, "b"),), "bab", "b"),
                                    (((0, 0, "a"),), "bba", "b"), (((0, 0, "ab"),), "bba", "")):
            self.check(units, row, word, expected)

    def test_all_words(self):
        source = random.Random(1)
        for letters, length in ((1, 12), (2, 7), (3, 5), (4, 4)):
            for _ in range(60):
                units = random_units(source, letters, source.choice([1, 2, 9]))
                row = tuple(random_cut(source, units, 9) for _ in range(source.randint(0, 3)))
                for word in words_to(letters, length):
                    self.check(units, row, word, plain_left(units, row, word))

    def test_long_words(self):
        source = random.Random(2)
        for _ in range(60):
            letters = source.randint(1, 4)
            units = random_units(source, letters, source.choice([1, 9]))
            row = tuple(random_cut(source, units, 20) for _ in range(3))
            word = "".join(source.choice("abcd"[:letters]) for _ in range(source.choice([30, 60, 400])))
            self.check(units, row, word, plain_left(units, row, word))
        self.check(((0,), (1,)), ((0, 0, ""),), "a" * 400, "a" * 400)
        self.check(((0,), (1,)), ((0, 0, "a"), (1, 20, "")), "a" * 400, "a" * 20)
        self.check(((0,), (1,)), ((1, 20, "a"),), "a" * 400, "")
        self.check(((0, 1),), ((0, 0, "b"),), "a" * 399 + "b", "a" * 398)
        self.check(((0, 1),), ((0, 20, ""),), "ab" * 600, "ab" * 20 + "a")

    def test_what_is_left_is_left_again(self):
        source = random.Random(3)
        for _ in range(3000):
            letters = source.randint(1, 4)
            units = random_units(source, letters, source.choice([1, 2, 9]))
            row = tuple(random_cut(source, units, 9) for _ in range(source.randint(0, 3)))
            word = "".join(source.choice("abcd"[:letters]) for _ in range(source.randint(0, 20)))
            told = left(units, row, word)
            self.assertTrue(word.startswith(told))
            self.assertEqual(left(units, row, told), told)


class PartsTest(unittest.TestCase):
    def check(self, units, cut, word, expected):
        told = parts(units, cut, word)
        self.assertEqual((told, sorts(told)), (expected, sorts(expected)), (units, cut, word))

    def test_by_hand(self):
        for cut, word, expected in (
                ((0, 0, ""), "", ()), ((0, 0, "abc"), "", ()), ((0, 0, ""), "a", None),
                ((0, 1, ""), "abc", ("a", "b", "c")), ((0, 2, ""), "abc", ("ab", "c")),
                ((0, 3, ""), "abc", ("abc",)), ((0, 1, "c"), "abc", None),
                ((0, 2, "c"), "abc", ("a", "bc")), ((0, 2, "c"), "abcc", None), ((0, 3, "c"), "abcc", ("a", "bcc")),
                ((0, 2, "c"), "ccab", ("cc", "ab")), ((0, 2, "c"), "cccab", None),
                ((0, 2, "abc"), "ab", ("ab",)),
                ((0, 2, "abc"), "abc", None), ((1, 2, ""), "aba", None), ((1, 3, ""), "aba", ("a", "b", "a")),
                ((1, 4, ""), "aba", ("ab", "a")), ((1, 20, ""), "b" * 8, ("b" * 6, "bb"))):
            self.check(UNITS, cut, word, expected)

    def test_counts_of_0(self):
        units = ((1, 0),)
        for cut, word, expected in (((0, 0, ""), "bbb", ("bbb",)), ((0, 0, ""), "bba", None),
                                    ((0, 1, ""), "bbabb", ("bbabb",)),
                                    ((0, 1, ""), "bbabbab", ("bbabb", "ab")), ((0, 1, "b"), "bbabbab", ("bbabb", "ab")),
                                    ((0, 1, "a"), "bbabbab", ("bbab", "bab")), ((0, 1, "a"), "bba", ("bba",)),
                                    ((0, 1, "a"), "baab", None), ((0, 0, "b"), "b" * 400, ("b" * 400,)),
                                    ((0, 1, "a"), "babba", ("bab", "ba"))):
            self.check(units, cut, word, expected)

    def test_all_words(self):
        source = random.Random(4)
        told = {}
        for letters, length in ((1, 12), (2, 7), (3, 5), (4, 4)):
            for _ in range(50):
                units = random_units(source, letters, source.choice([1, 2, 4]))
                cut = random_cut(source, units, 6)
                for word in words_to(letters, length):
                    expected = plain_parts(units, cut, word)
                    self.check(units, cut, word, expected)
                    fewest = fewest_parts(units, cut, word)
                    self.assertEqual(None if expected is None else len(expected), fewest)
                    told[fewest] = True
        self.assertGreaterEqual(len(told), 7)

    def test_parts_are_the_word(self):
        source = random.Random(5)
        whole = 0
        for _ in range(400):
            letters = source.randint(1, 4)
            units = random_units(source, letters, source.choice([1, 2, 4]))
            cut = random_cut(source, units, 20)
            word = "".join(source.choice("abcd"[:letters]) for _ in range(source.randint(0, 60)))
            told = parts(units, cut, word)
            if told is None:
                self.assertIsNone(fewest_parts(units, cut, word))
            else:
                self.assertEqual("".join(told), word)
                self.assertTrue(all(part and counted(units[cut[0]], part) <= cut[1] for part in told))
                self.assertEqual(len(told), fewest_parts(units, cut, word))
                whole += 1
        self.assertGreater(whole, 150)

    def test_long_words(self):
        self.check(((1,),), (0, 1, ""), "a" * 400, ("a",) * 400)
        self.check(((1,),), (0, 20, ""), "a" * 400, ("a" * 20,) * 20)
        self.check(((9,),), (0, 20, ""), "a" * 399, ("aa",) * 199 + ("a",))
        self.check(((1, 1),), (0, 20, "b"), "a" + "b" * 399, None)
        self.check(((1, 1),), (0, 20, "b"), ("a" + "b" * 19) * 20, ("a" + "b" * 19,) * 20)
        self.check(((1, 0),), (0, 1, "b"), ("a" + "b" * 199) * 2, ("a" + "b" * 199,) * 2)
        source = random.Random(6)
        for _ in range(20):
            units = random_units(source, 4, 3)
            cut = random_cut(source, units, 20)
            word = "".join(source.choice("abcd") for _ in range(400))
            self.check(units, cut, word, plain_parts(units, cut, word))


class BeyondTheBoundsTest(unittest.TestCase):
    def test_more_of_all(self):
        units = ((1, 1, 1, 1, 12), (0, 0, 0, 0, 1), (30, 1, 1, 1, 1))
        self.assertEqual(left(units, ((0, 50, "e"), (2, 60, ""), (0, 40, ""), (0, 39, "")), "aabe" * 100), "aa")
        self.assertEqual(parts(units, (0, 30, "e"), "aeeabe"), ("aeea", "be"))
        self.assertIsNone(cuts_error(5, units, ((2, 5, "ae"),)))


if __name__ == "__main__":
    unittest.main()
