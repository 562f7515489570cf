import random
import unittest

from models import NO_CUTS, NO_NUMBERS, Model, outcome, random_edit
from samples import KINDS, THIN, broken, random_cut, random_units
from test_benches import with_redo
from unitlimits.benches import Bench, KeepBench
from unitlimits.cuts import overlong
from unitlimits.texts import scheme_error

EVERY = (3, ((0, 0, 0),), (True,))
UNITS = ((1, 1, 1), (1, 3, 2))
NO_LIMITS = [None, 0, "", (), (0,), (0, 1, 2), [0, 1], (2, 1), (-1, 1), (True, 1), (0, True), (0, 21), (0, -1),
             (0, None), ("0", 1), (0, (1,)), ((0, 1),), {0: 1}, ((1, 1, 1), 4), (10 ** 59, 1)]


class ExampleTest(unittest.TestCase):
    def test_points_11_and_12(self):
        bench = KeepBench((2, ((0, 0),), (True,)), ((1, 1), (1, 3)), (1, 6), ((0, 2, ""),))
        self.assertEqual([bench.attempt([("drop", 0), ("add", (1, 6, "b"))]), bench.left("abb"), str(bench)],
                         [2, "", "1 states, 2 units, 1 cuts, 1 edits"])
        bench = KeepBench((2, ((0, 0),), (True,)), ((1, 1), (1, 3)), (1, 6), ((0, 2, ""),))
        self.assertEqual(outcome(bench.allow, 0, 3), ("Overlong", {"word": "abb"}))


class CreationTest(unittest.TestCase):
    def test_the_order_of_errors(self):
        for values, told in (
                ((None, None, None, None), ("BadScheme", {"error": ("kind", "kind")})),
                ((EVERY, None, None, None), ("BadScheme", {"error": ("units", None)})),
                ((EVERY, UNITS, None, None), ("BadScheme", {"error": ("cuts", (None, "cuts"))})),
                ((EVERY, UNITS, None, ()), ("BadLimit", {"limit": None})),
                ((EVERY, UNITS, None), ("BadLimit", {"limit": None})),
                ((EVERY, UNITS, (0, 21), ()), ("BadLimit", {"limit": (0, 21)})),
                ((EVERY, UNITS, (0, 20), ()), ("Overlong", {"word": "a" * 21})),
                ((EVERY, UNITS, (1, 5)), ("Overlong", {"word": "bb"}))):
            self.assertEqual(outcome(KeepBench, *values), told)

    def test_limits(self):
        for limit in NO_LIMITS:
            self.assertEqual(outcome(KeepBench, EVERY, UNITS, limit, ((0, 0, ""),)), ("BadLimit", {"limit": limit}))
        for limit in ((0, 0), (0, 20), (1, 0), (1, 20)):
            bench = KeepBench(EVERY, UNITS, limit, ((0, 0, ""),))
            self.assertEqual((bench.limit, bench.cuts, len(bench)), (limit, ((0, 0, ""),), 0))
        self.assertEqual(outcome(KeepBench, EVERY, UNITS[:1], (1, 1))[0], "BadLimit")

    def test_schemes_that_are_broken(self):
        scheme = ((2, ((0, 1), (0, None)), (True, False)), ((1, 1), (1, 4)), ((1, 9, "b"), (0, 3, "")))
        for at in range(3):
            for value in broken(scheme[at]):
                values = scheme[:at] + (value,) + scheme[at + 1:]
                error = scheme_error(values)
                if error is not None:
                    told = outcome(KeepBench, values[0], values[1], None, values[2])
                    self.assertEqual(told, ("BadScheme", {"error": error}))

    def test_cuts_that_do_not_keep_the_limit(self):
        source = random.Random(1)
        told = {}
        for _ in range(300):
            kind = source.choice([EVERY, *THIN.values(), *[kind for kind, _ in KINDS.values()]])
            units = random_units(source, kind[0], 3)
            row = tuple(random_cut(source, units, 20) for _ in range(source.randint(0, 3)))
            limit = (source.randrange(len(units)), source.randint(0, 20))
            word = overlong(kind, units, row, limit)
            result = outcome(KeepBench, kind, units, limit, row)
            if word is None:
                self.assertEqual((result[0], result[1].cuts), ("ok", row))
            else:
                self.assertEqual(result, ("Overlong", {"word": word}))
            told[word is None] = True
        self.assertEqual(len(told), 2)

    def test_arguments_by_name(self):
        bench = KeepBench(cuts=((0, 2, ""),), limit=(1, 6), units=UNITS, kind=EVERY)
        self.assertEqual((bench.kind, bench.units, bench.limit, bench.cuts), (EVERY, UNITS, (1, 6), ((0, 2, ""),)))
        self.assertIsInstance(bench, Bench)


class EditsTest(unittest.TestCase):
    def fail(self, bench, name, fields, function, *values):
        """Checks that a call raises an error and changes nothing."""
        before = with_redo(bench)
        self.assertEqual(outcome(function, *values), (name, fields), values)
        self.assertEqual(with_redo(bench), before, values)

    def bench(self):
        """A bench with an edit that stands, and one that was removed."""
        bench = KeepBench(EVERY, UNITS, (1, 6), ((0, 2, ""), (1, 6, "c")))
        bench.allow(0, 2)
        bench.allow(1, 6)
        bench.undo()
        return bench

    def test_each_edit_that_would_let_a_word_be_overlong(self):
        bench = KeepBench(EVERY, UNITS, (1, 6), ((0, 2, ""),))
        for function, values in ((bench.drop, [0]), (bench.change, [0, (0, 3, "")]), (bench.allow, [0, 3]),
                                 (bench.__setitem__, [0, (0, 3, "")]), (bench.__isub__, [0]),
                                 (bench.attempt, [[("allow", 0, 3)]])):
            after = {"drop": (), "__isub__": ()}.get(function.__name__, ((0, 3, ""),))
            self.fail(bench, "Overlong", {"word": overlong(EVERY, UNITS, after, (1, 6))}, function, *values)

    def test_all_single_edits(self):
        # Right edits that keep the limit are done, others raise the first word that does not.
        source = random.Random(2)
        told = {}
        for _ in range(400):
            units = tuple(tuple(source.choice([0, 0, 1, 1, 2]) for _ in range(3)) for _ in range(2))
            limit = (source.randrange(2), source.randint(0, 3))
            row = tuple((source.randrange(2), source.randint(0, 3), source.choice(["", "a", "bc", "abc"]))
                        for _ in range(source.randint(1, 2))) + ((*limit, ""),)
            if overlong(EVERY, units, row, limit) is not None:
                continue
            places = range(len(row))
            for edit in [("drop", at) for at in places] + [("lift", at) for at in places] + [
                    ("allow", at, most) for at in places for most in (0, 1, 3)] + [
                    ("change", at, (0, 1, "a")) for at in places] + [("add", (1, 2, "b"))]:
                if edit[0] != "add" or len(row) < 3:
                    bench, model = KeepBench(EVERY, units, limit, row), Model(EVERY, units, row, limit)
                    result = outcome(getattr(bench, edit[0]), *edit[1:])
                    self.assertEqual(result, model.edit(*edit), (units, limit, row, edit))
                    self.assertEqual(bench.cuts, model.cuts())
                    told[edit[0], result[0]] = told.get((edit[0], result[0]), 0) + 1
        for name in ("drop", "lift", "allow", "change"):
            self.assertGreater(told[name, "ok"], 20)
            # In which order cuts stand matters only where some of what they leave is not of the kind.
            self.assertTrue(name == "lift" or told[name, "Overlong"] > 5, name)
        # A cut behind all others leaves no more than they do.
        self.assertNotIn(("add", "Overlong"), told)

    def test_lifts(self):
        for kind, units, row, limit, word in (
                ((3, ((None, 1, 1), (None, None, 0)), (True, False)), ((0, 1, 2), (1, 0, 1)),
                 ((1, 1, "bc"), (1, 1, "")), (0, 3), "bcbc"),
                ((3, ((1, None, 3), (2, 3, None), (0, None, None), (None,) * 3), (True, False, False, False)),
                 ((1, 0, 0), (1, 0, 0)), ((0, 2, "a"), (0, 2, "b")), (1, 1), "aaa")):
            bench = KeepBench(kind, units, limit, row)
            self.fail(bench, "Overlong", {"word": word}, bench.lift, 1)
            self.fail(bench, "Overlong", {"word": word}, bench.attempt, [("lift", 1)])
            self.assertEqual((bench.lift(0), bench.attempt([("lift", 1), ("lift", 1)])), (1, 2))

    def test_other_errors_come_first(self):
        bench = self.bench()
        for index in NO_NUMBERS + [2]:
            for function, values in ((bench.drop, [index]), (bench.lift, [index]), (bench.allow, [index, 20]),
                                     (bench.change, [index, (0, 20, "")])):
                self.fail(bench, "NoCut", {"index": index}, function, *values)
        for cut in NO_CUTS:
            self.fail(bench, "BadCuts", {"error": (0, "cut")}, bench.change, 0, cut)
            self.fail(bench, "BadCuts", {"error": (2, "cut")}, bench.add, cut)
        for _ in range(59):
            bench.lift(0)
        self.fail(bench, "TooManyEdits", {}, bench.drop, 0)
        bench = KeepBench(EVERY, UNITS, (1, 6), ((0, 2, ""),))
        self.fail(bench, "Overlong", {"word": "abb"}, bench.drop, 0)

    def test_undo_and_redo_never_raise_it(self):
        source = random.Random(3)
        for _ in range(60):
            units = random_units(source, 3, 3)
            limit = (source.randrange(len(units)), source.randint(0, 5))
            bench = KeepBench(EVERY, units, limit, ((*limit, ""),))
            model = Model(EVERY, units, ((*limit, ""),), limit)
            for _ in range(30):
                edit = random_edit(source, model, 6)
                self.assertEqual(outcome(getattr(bench, edit[0]), *edit[1:]), model.edit(*edit))
            many = len(bench)
            for version in range(many - 1, -1, -1):
                self.assertEqual((bench.undo(), bench.overlong(limit)), (version, None))
            for version in range(1, many + 1):
                self.assertEqual((bench.redo(), bench.overlong(limit)), (version, None))
            for version in range(many + 1):
                self.assertIsNone(overlong(EVERY, units, bench.state(version=version), limit))

    def test_what_stays(self):
        bench = self.bench()
        held = bench
        bench += (0, 1, "")
        bench -= 2
        bench[0] = (0, 1, "")
        self.assertIs(held, bench)
        self.assertEqual((bench.limit, bench.kind, bench.units), ((1, 6), EVERY, UNITS))


if __name__ == "__main__":
    unittest.main()
