import random
import unittest

from samples import (KINDS, THIN, check_interface, counted, is_word_of, random_kind, small_kinds, sorts, timed,
                     with_idle_states, words_of)
from unitlimits import roads
from unitlimits.roads import back, comes_to, drift, unlike_roads

EVERY = (3, ((0, 0, 0),), (True,))
ONE = (1, ((0,),), (True,))
TURNS = (2, ((1, None), (None, 0)), (True, False))
UNITS = ((1, 1, 0), (1, 2, 1))


def read(unit, word, number):
    """The greatest place such that the letters ahead of it count at most so much."""
    counts = [0]
    for letter in word:
        counts.append(counts[-1] + unit["abcd".index(letter)])
    return max(place for place, count in enumerate(counts) if count <= number)


def plain_places(units, road, word, number):
    """The places that the number stands for, along the road."""
    places = [read(units[road[0]], word, number)]
    for index in road[1:]:
        places.append(read(units[index], word, counted(units[index], word[:places[-1]])))
    return places


def plain_comes_to(units, road, word, number):
    return plain_places(units, road, word, number)[-1]


def plain_back(units, road, word, place):
    numbers = range(counted(units[road[0]], word) + 1)
    return next((number for number in numbers if plain_comes_to(units, road, word, number) == place), None)


def random_road(source, units, longest=4):
    return tuple(source.randrange(len(units)) for _ in range(source.randint(1, longest)))


def random_units(source, letters):
    """Units in which letters count nothing often, or always."""
    choice = source.choice([(0,), (0, 1), (0, 0, 1), (0, 1, 2), (1, 2, 3), (0, 0, 9)])
    return tuple(tuple(source.choice(choice) for _ in range(letters)) for _ in range(2))


class ExampleTest(unittest.TestCase):
    def test_point_9b(self):
        units = ((1, 1, 0), (1, 2, 1))
        self.assertEqual(([comes_to(units, (0,), "acab", number) for number in range(4)],
                          [comes_to(units, (1, 0), "acab", number) for number in range(6)]),
                         ([0, 2, 3, 4], [0, 2, 2, 3, 3, 4]))
        self.assertEqual([back(units, (1, 0), "acab", place) for place in range(5)], [0, None, 1, 3, 5])
        every, turns = (3, ((0, 0, 0),), (True,)), (3, ((0, 0, 1), (0, 0, None)), (True, True))
        self.assertEqual([unlike_roads(every, units, (1,), (1, 0), 5), unlike_roads(every, units, (0,), (0, 1, 0), 5),
                          unlike_roads(every, units, (0,), (1, 0), 1)], [("c", 0), None, ("b", 1)])
        self.assertEqual([drift(every, units, (1, 0), 3), drift(turns, units, (1, 0), 3),
                          drift(turns, units, (0, 1), 3)], [None, 1, 0])


class InterfaceTest(unittest.TestCase):
    def test_names_and_arguments(self):
        check_interface(self, roads, {"comes_to": ["units", "road", "word", "number"],
                                      "back": ["units", "road", "word", "place"],
                                      "unlike_roads": ["kind", "units", "one", "other", "most"],
                                      "drift": ["kind", "units", "road", "most"]})

    def test_arguments_by_name(self):
        self.assertEqual(comes_to(number=3, word="acab", road=(1, 0), units=UNITS), 3)
        self.assertEqual(back(place=3, word="acab", road=(1, 0), units=UNITS), 3)
        self.assertEqual(unlike_roads(most=1, other=(1, 0), one=(0,), units=UNITS, kind=EVERY), ("b", 1))
        self.assertIsNone(drift(most=3, road=(1, 0), units=UNITS, kind=EVERY))


class PlacesTest(unittest.TestCase):
    def check(self, units, road, word, numbers):
        for number in numbers:
            place = comes_to(units, road, word, number)
            self.assertEqual((place, type(place)), (plain_comes_to(units, road, word, number), int),
                             (units, road, word, number))

    def check_back(self, units, road, word):
        for place in range(len(word) + 1):
            number = back(units, road, word, place)
            expected = plain_back(units, road, word, place)
            self.assertEqual((number, type(number)), (expected, type(expected)), (units, road, word, place))

    def test_by_hand(self):
        nothing, signs, ends = (0, 0), (1, 1), (0, 1)
        for units, road, word, places in (
                ((signs, ends), (0,), "", [0, 0, 0]), ((signs, ends), (0,), "ab", [0, 1, 2, 2]),
                ((signs, nothing), (1,), "ab", [2, 2]), ((signs, nothing), (0, 1), "ab", [2, 2]),
                ((signs, ends), (0, 1), "aabaab", [2, 2, 2, 5, 5, 5, 6, 6]),
                ((signs, ends), (1, 0), "aabaab", [2, 5, 6, 6]), ((signs, ends), (1, 0, 1), "aabaab", [2, 5, 6]),
                ((signs, ends), (1, 1, 1, 1), "aabaab", [2, 5, 6]), ((signs, ends), (0, 0), "aba", [0, 1, 2, 3, 3]),
                (((2, 2),), (0,), "ab", [0, 0, 1, 1, 2, 2]), (((2, 2),), (0, 0), "ab", [0, 0, 1, 1, 2, 2]),
                (((1, 0), (0, 1)), (0, 1), "ababb", [1, 3, 5]), (((1, 0), (0, 1)), (0, 1, 0), "babab", [3, 5, 5]),
                (((1, 0), (0, 1)), (0, 1, 0, 1), "aabb", [4, 4, 4]), (((0, 9),), (0,), "aba", [1] * 9 + [3])):
            self.assertEqual([comes_to(units, road, word, number) for number in range(len(places))], places,
                             (units, road, word))

    def test_numbers_back_by_hand(self):
        signs, ends = (1, 1), (0, 1)
        for units, road, word, numbers in (
                ((signs, ends), (0,), "ab", [0, 1, 2]), ((signs, ends), (1,), "ab", [None, 0, 1]),
                ((signs, ends), (0, 1), "aabaab", [None, None, 0, None, None, 3, 6]),
                ((signs, ends), (1, 0), "aabaab", [None, None, 0, None, None, 1, 2]),
                (((2, 3),), (0,), "aba", [0, 2, 5, 7]), (((0, 0), (1, 1)), (0, 1), "aba", [None, None, None, 0]),
                (((0, 0), (1, 1)), (1, 0), "aba", [None, None, None, 0]), (((1, 1),), (0, 0), "", [0]),
                (((0, 0),), (0,), "", [0])):
            self.assertEqual([back(units, road, word, place) for place in range(len(word) + 1)], numbers,
                             (units, road, word))

    def test_words_of_up_to_thirty_letters(self):
        source = random.Random(1)
        for _ in range(250):
            letters = source.randint(1, 4)
            units = random_units(source, letters)
            word = "".join(source.choice("abcd"[:letters]) for _ in range(source.randint(0, 30)))
            road = random_road(source, units)
            self.check(units, road, word, range(counted(units[road[0]], word) + 3))
            self.check_back(units, road, word)

    def test_all_roads_of_some_words(self):
        units = ((1, 0, 2), (0, 1, 1))
        for word in ("", "a", "c", "abc", "aabbcc", "babcab", "cbbaacb"):
            for length in range(1, 5):
                for number in range(2 ** length):
                    road = tuple(number >> at & 1 for at in range(length))
                    self.check(units, road, word, range(counted(units[road[0]], word) + 3))
                    self.check_back(units, road, word)

    def test_longer_words(self):
        source = random.Random(2)
        for many in (100, 399, 400, 900):
            units = random_units(source, 4)
            road = random_road(source, units)
            word = "".join(source.choice("abcd") for _ in range(many))
            count = counted(units[road[0]], word)
            self.check(units, road, word, [0, 1, count // 2, max(0, count - 1), count, count + 1, 10 ** 30])
            for place in (0, 1, many // 2, many - 1, many):
                number = back(units, road, word, place)
                if number is not None:
                    self.assertEqual(plain_comes_to(units, road, word, number), place)
                    self.assertTrue(number == 0 or plain_comes_to(units, road, word, number - 1) < place)
        word = "ab" * 5000
        self.assertEqual(timed(comes_to, ((0, 1), (1, 1)), (0, 1, 0, 1), word, 4000), 8001)
        self.assertEqual(timed(back, ((0, 1), (1, 1)), (0, 1, 0, 1), word, 8001), 4000)

    def test_there_and_back(self):
        # A number that is the least one for its place comes to it, and none below does.
        source = random.Random(3)
        for _ in range(300):
            units = random_units(source, 3)
            road = random_road(source, units)
            word = "".join(source.choice("abc") for _ in range(source.randint(0, 12)))
            for number in range(counted(units[road[0]], word) + 1):
                place = comes_to(units, road, word, number)
                least = back(units, road, word, place)
                self.assertTrue(least is not None and least <= number)
                self.assertEqual(comes_to(units, road, word, least), place)


class UnlikeRoadsTest(unittest.TestCase):
    def check(self, kind, units, one, other, most, words):
        """Checks by words of the kind, in the order of words, which are all up to a length."""
        told = unlike_roads(kind, units, one, other, most)
        first = next(((word, number) for word in words for number in range(most + 1)
                      if comes_to(units, one, word, number) != comes_to(units, other, word, number)), None)
        hint = (kind, units, one, other, most)
        if told is not None and first is None:
            word, number = told
            self.assertTrue(is_word_of(kind, word) and len(word) > max(map(len, words), default=-1), hint)
            unlike = [at for at in range(most + 1)
                      if plain_comes_to(units, one, word, at) != plain_comes_to(units, other, word, at)]
            self.assertEqual(number, unlike[0], hint)
        else:
            self.assertEqual((told, sorts(told)), (first, sorts(first)), hint)
        self.assertEqual(unlike_roads(kind, units, other, one, most), told, hint)
        return told

    def test_by_hand(self):
        signs, nothing, first, last = (1, 1), (0, 0), (1, 0), (0, 1)
        every = (2, ((0, 0),), (True,))
        for kind, units, one, other, most, told in (
                (every, (signs, nothing), (0,), (1,), 0, ("a", 0)),
                (every, (signs, nothing), (0,), (0, 1), 5, ("a", 0)),
                (every, (signs, nothing), (1,), (1, 0), 5, None), (every, (signs, signs), (0,), (1,), 20, None),
                (every, (signs, (2, 2)), (0,), (1,), 0, None), (every, (signs, (2, 2)), (0,), (1,), 1, ("a", 1)),
                (every, (first, last), (0,), (1,), 0, ("a", 0)), (every, (first, last), (0, 1), (1,), 0, ("b", 0)),
                (every, (first, last), (0, 1), (1, 0), 0, ("ab", 0)),
                (every, (first, last), (0, 1), (0, 1, 0), 3, ("ab", 0)),
                (TURNS, (first, last), (0,), (0,), 20, None), (TURNS, (first, last), (0, 1), (0, 1), 20, None)):
            self.assertEqual(unlike_roads(kind, units, one, other, most), told, (kind, units, one, other, most))

    def test_roads_that_are_the_same(self):
        source = random.Random(4)
        for kind in [kind for kind, _ in KINDS.values()] + list(THIN.values()):
            for _ in range(5):
                units = random_units(source, kind[0])
                road = random_road(source, units, 3)
                self.assertIsNone(unlike_roads(kind, units, road, road, source.randint(0, 20)))
                # What is read behind the letters that count nothing is read there again.
                self.assertIsNone(unlike_roads(kind, units, road, road + road[-1:], source.randint(0, 20)))
                self.assertIsNone(unlike_roads(kind, units, road[:1] + road, road, source.randint(0, 20)))

    def test_roads_that_are_unlike_only_far_along(self):
        for many in (1, 8, 20):
            # The letters b, which count nothing in the second unit, come behind many letters a.
            rows = ((0, 1), (None, None))
            kind, units = (2, rows, (False, True)), ((1, 1), (1, 0))
            self.assertEqual(unlike_roads(kind, units, (0,), (0, 1), many), ("b", 0))
            kind = (2, ((1, None), (2, None), (3, None), (4, None), (5, None), (6, None), (7, None), (0, 0)),
                    (False,) * 7 + (True,))
            pair = None if many < 7 else ("a" * 7 + "b" + "a" * 7, 7)
            self.assertEqual(unlike_roads(kind, units, (0,), (0, 1), many), pair)
        ones, twos = (1, 1), (1, 2)
        line = (2, ((0, 1), (None, None)), (False, True))
        for most in (0, 1, 19, 20):
            self.assertEqual(unlike_roads(line, (ones, twos), (0,), (1,), most), None if most == 0 else ("b", 1))
        # Alike up to the numbers that are asked.
        ring = (1, tuple((at + 1,) for at in range(7)) + ((0,),), (True,) + (False,) * 7)
        self.assertEqual(unlike_roads(ring, ((1,), (2,)), (0,), (1,), 1), ("a" * 8, 1))

    def test_letters_ahead_that_count_nothing(self):
        # Then the greatest number may still be counted as a whole on both roads.
        kind = (2, ((1, None), (None, 2), (None, None)), (False, False, True))
        for most in range(9):
            units = ((0, most), (0, most + 1))
            self.assertEqual(unlike_roads(kind, units, (0,), (1,), most), ("ab", most))
            if most:
                self.assertIsNone(unlike_roads(kind, units, (0,), (1,), most - 1))

    def test_each_number_from_0_to_20(self):
        kind = (2, ((0, 1), (None, None)), (True, True))
        for most in range(21):
            words = list(words_of(kind, 30))
            for units, one, other in ((((1, 1), (1, 0)), (0,), (0, 1)), (((1, 3), (2, 3)), (0,), (1,)),
                                      (((0, 1), (1, 1)), (0, 1), (1,)), (((0, 3), (0, 2)), (0,), (1,))):
                self.check(kind, units, one, other, most, words)

    def test_small_kinds_against_all_words(self):
        source = random.Random(5)
        told = {}
        for kind in small_kinds(2, 2):
            words = list(words_of(kind, 8))
            for _ in range(3):
                units = random_units(source, 2)
                one, other = random_road(source, units), random_road(source, units)
                told[self.check(kind, units, one, other, source.randint(0, 3), words) is None] = True
        self.assertEqual(len(told), 2)

    def test_many_kinds_against_all_words(self):
        source = random.Random(6)
        told = {}
        for _ in range(400):
            letters = source.choice([1, 2, 3, 4])
            kind = random_kind(source, letters, source.randint(1, 5))
            words = list(words_of(kind, {1: 30, 2: 9, 3: 7, 4: 5}[letters]))
            units = random_units(source, letters)
            one, other, most = random_road(source, units), random_road(source, units), source.randint(0, 20)
            pair = self.check(kind, units, one, other, most, words)
            self.assertEqual(unlike_roads(with_idle_states(kind), units, one, other, most), pair)
            told[pair is None] = told.get(pair is None, 0) + 1
        self.assertGreater(min(told.values()), 40)

    def test_thin_kinds_against_all_words(self):
        source = random.Random(7)
        longest = 0
        for kind in THIN.values():
            words = list(words_of(kind, 30))
            for _ in range(30):
                units = random_units(source, kind[0])
                one, other = random_road(source, units), random_road(source, units)
                pair = self.check(kind, units, one, other, source.randint(0, 20), words)
                longest = max(longest, 0 if pair is None else len(pair[0]))
        self.assertGreater(longest, 3)

    def test_kinds_without_words(self):
        for name in ("no word", "no word, an end not come to", "the empty word", "the empty word, and a way to no end"):
            kind, _ = KINDS[name]
            units = ((0,) * kind[0], (1,) * kind[0])
            self.assertIsNone(unlike_roads(kind, units, (0,), (1,), 20))

    def test_greatest_sizes(self):
        source = random.Random(8)
        for _ in range(30):
            rows = tuple(tuple(source.randrange(8) for _ in range(4)) for _ in range(8))
            kind = (4, rows, (False,) * 7 + (True,))
            units = source.choice([((0, 1, 1, 1), (1, 0, 1, 1)), ((1, 1, 1, 1), (1, 2, 3, 4)),
                                   ((1, 2, 3, 9), (1, 2, 3, 9)), ((0, 1, 2, 3), (0, 1, 2, 3))])
            timed(unlike_roads, kind, units, random_road(source, units), random_road(source, units), 20)
            timed(drift, kind, units, random_road(source, units), 20)


class DriftTest(unittest.TestCase):
    def most_drift(self, units, road, most, words):
        """The greatest drift in some words."""
        drifts = [0]
        for word in words:
            for number in range(most + 1):
                places = plain_places(units, road, word, number)
                drifts.append(places[-1] - places[0])
        return max(drifts)

    def check(self, kind, units, road, most, words):
        told = drift(kind, units, road, most)
        found = self.most_drift(units, road, most, words)
        hint = (kind, units, road, most)
        if told is None:
            # More letters than there are pairs of a state and an index of the road.
            self.assertGreater(found, len(kind[1]) * (len(road) - 1), hint)
        else:
            self.assertEqual((told, type(told)), (found, int), hint)
        return told

    def test_by_hand(self):
        signs, first, last = (1, 1), (1, 0), (0, 1)
        every = (2, ((0, 0),), (True,))
        for kind, units, road, most, told in (
                (every, (signs, first), (0,), 20, 0), (every, (signs, first), (0, 1), 0, None),
                (every, (signs, first), (1, 0), 0, 0), (every, (first, last), (0, 1), 0, None),
                (every, (first, first), (0, 1), 20, 0), (every, (signs, signs), (0, 1, 0, 1), 20, 0),
                (TURNS, (signs, first), (0, 1), 0, 0), (TURNS, (signs, first), (0, 1), 1, 1),
                (TURNS, (signs, last), (0, 1), 0, 1), (TURNS, (first, last), (0, 1), 0, 1),
                (TURNS, (first, last), (0, 1, 0), 0, 2), (TURNS, (first, last), (0, 1, 0, 1), 0, 3),
                (TURNS, (last, first), (0, 1), 0, 1), (TURNS, ((0, 0), (0, 0)), (0, 1), 20, 0),
                (TURNS, (signs, (0, 0)), (0, 1), 20, None)):
            self.assertEqual(drift(kind, units, road, most), told, (kind, units, road, most))

    def test_places_that_no_number_up_to_most_tells(self):
        # The letters b, which drift, stand behind seven letters a, and words go on behind them.
        rows = tuple((at + 1, None) for at in range(7)) + ((None, 7),)
        kind = (2, rows, (True,) * 8)
        for most in range(21):
            self.assertEqual(drift(kind, ((1, 1), (1, 0)), (0, 1), most), None if most >= 7 else 0)
            self.assertEqual(drift(kind, ((2, 1), (1, 0)), (0, 1), most), None if most >= 14 else 0)
        once = (2, ((1, None), (2, None), (None, 3), (None, None)), (False, False, False, True))
        for most in range(4):
            self.assertEqual(drift(once, ((1, 1), (1, 0)), (0, 1), most), 1 if most >= 2 else 0)

    def test_small_kinds_against_all_words(self):
        source = random.Random(9)
        told = {}
        for kind in small_kinds(2, 2):
            words = list(words_of(kind, 8))
            for _ in range(2):
                units = random_units(source, 2)
                told[str(self.check(kind, units, random_road(source, units, 3), source.randint(0, 3), words))] = True
        self.assertEqual(sorted(told), ["0", "1", "None"])

    def test_kinds_of_one_letter_against_all_words(self):
        for states in (1, 2, 3):
            for kind in small_kinds(1, states):
                words = list(words_of(kind, 16))
                for units in (((1,), (0,)), ((0,), (1,)), ((2,), (0,))):
                    for road in ((0,), (0, 1), (1, 0), (0, 1, 0, 1)):
                        for most in (0, 1, 3):
                            self.check(kind, units, road, most, words)

    def test_thin_kinds_against_all_words(self):
        source = random.Random(10)
        told = {}
        for kind in THIN.values():
            words = list(words_of(kind, 26))
            for _ in range(12):
                units = random_units(source, kind[0])
                told[str(self.check(kind, units, random_road(source, units), source.randint(0, 4), words))] = True
        self.assertGreater(len(told), 2)

    def test_idle_states(self):
        source = random.Random(11)
        for _ in range(200):
            kind = random_kind(source, source.randint(1, 4), source.randint(1, 6))
            units = random_units(source, kind[0])
            road, most = random_road(source, units), source.randint(0, 20)
            self.assertEqual(drift(with_idle_states(kind), units, road, most), drift(kind, units, road, most))

    def test_kinds_without_words(self):
        for name in ("no word", "no word, an end not come to", "the empty word", "the empty word, and a way to no end"):
            kind, _ = KINDS[name]
            told = drift(kind, ((1,) * kind[0], (0,) * kind[0]), (0, 1), 20)
            self.assertEqual((told, type(told)), (0, int))


class BeyondTheBoundsTest(unittest.TestCase):
    def test_more_of_all(self):
        every = (5, ((0,) * 5,), (True,))
        units = ((1, 1, 1, 1, 12), (0, 0, 0, 0, 1), (1, 1, 1, 1, 1))
        self.assertEqual(comes_to(units, (2, 1, 0, 2, 1), "aeaae", 1), 1)
        self.assertEqual(comes_to(units, (2, 1, 0, 2, 1), "aeaae", 2), 4)
        self.assertEqual(unlike_roads(every, units, (0,), (2,), 40), ("e", 1))
        self.assertIsNone(drift(every, units, (2, 1), 40))


if __name__ == "__main__":
    unittest.main()
