import inspect
import random
import unittest

from models import NAMES, NO_CUTS, NO_NUMBERS, Model, outcome, random_edit
from samples import THIN, broken, check_interface, counted, is_word_of, random_cut, random_units, sorts, words_of
from unitlimits import benches, consoles
from unitlimits.benches import Bench, KeepBench
from unitlimits.bounds import MAX_EDITS
from unitlimits.cuts import left, overlong, unlike_cuts
from unitlimits.errors import BadScheme, NoCut
from unitlimits.texts import scheme_error

EVERY = (3, ((0, 0, 0),), (True,))
UNITS = ((1, 1, 1), (1, 3, 2))
ROW = ((0, 2, ""), (1, 5, "c"))
METHODS = {
    "add": ["cut"], "drop": ["index"], "change": ["index", "cut"], "lift": ["index"], "allow": ["index", "most"],
    "undo": [], "redo": [], "attempt": ["edits", "watch"], "left": ["word"], "overlong": ["limit"], "differs": ["cuts"],
    "state": ["version"], "edits": [],
}


def views(bench):
    """All that can be seen of a bench without a question about its words."""
    return (bench.kind, bench.units, bench.cuts, len(bench), bench.edits(), str(bench),
            [bench.state(version=version) for version in range(len(bench) + 1)])


def with_redo(bench):
    """A view of a bench that tells what redo would do, which is done and undone for this."""
    many = 0
    while outcome(bench.redo)[0] == "ok":
        many += 1
    seen = views(bench)
    for _ in range(many):
        bench.undo()
    return views(bench), seen


class ExampleTest(unittest.TestCase):
    def test_point_11(self):
        bench = Bench((3, ((0, 0, 0),), (True,)), ((1, 1, 1), (1, 3, 2)))
        self.assertEqual([bench.add((0, 2, "")), bench.overlong((1, 5)), bench.add((1, 5, "c")), bench.overlong((1, 5)),
                          bench.lift(1), bench.allow(0, 4), bench.cuts, bench.left("abcc")],
                         [1, "bb", 2, None, 3, 4, ((1, 4, "c"), (0, 2, "")), "a"])
        bench = Bench((2, ((0, 0),), (True,)), ((1, 2),), ((0, 3, ""),))
        self.assertEqual([bench.allow(0, 5), bench.cuts, bench.undo(), bench.cuts, bench.redo(), bench.drop(0),
                          bench.edits()],
                         [1, ((0, 5, ""),), 0, ((0, 3, ""),), 1, 2, (("allow", 0, 5), ("drop", 0))])


class InterfaceTest(unittest.TestCase):
    def test_classes(self):
        for made in (Bench, KeepBench):
            self.assertEqual((made.__module__, inspect.isclass(made)), (benches.__name__, True))
            self.assertEqual((made.MOST_EDITS, type(made.MOST_EDITS)), (MAX_EDITS, int))
        self.assertTrue(issubclass(KeepBench, Bench))
        self.assertEqual(list(inspect.signature(Bench).parameters), ["kind", "units", "cuts"])
        self.assertEqual(list(inspect.signature(KeepBench).parameters), ["kind", "units", "limit", "cuts"])
        self.assertEqual(list(inspect.signature(consoles.Console).parameters), ["bench"])
        check_interface(self, benches, {})

    def test_methods_are_defined_in_the_class(self):
        for name, names in METHODS.items():
            self.assertTrue(inspect.isfunction(vars(Bench)[name]), name)
            self.assertEqual(list(inspect.signature(vars(Bench)[name]).parameters), ["self", *names], name)
        for name in ("__init__", "__getitem__", "__setitem__", "__iadd__", "__isub__", "__len__", "__str__", "__eq__"):
            self.assertTrue(inspect.isfunction(vars(Bench)[name]), name)

    def test_keywords_alone(self):
        bench = Bench(EVERY, UNITS)
        for call in (lambda: bench.attempt([], None), lambda: bench.state(0)):
            with self.assertRaises(TypeError):
                call()

    def test_arguments_by_name(self):
        bench = Bench(cuts=ROW, units=UNITS, kind=EVERY)
        self.assertEqual(bench.add(cut=(0, 1, "a")), 1)
        self.assertEqual(bench.change(cut=(0, 3, "a"), index=2), 2)
        self.assertEqual(bench.allow(most=7, index=0), 3)
        self.assertEqual([bench.lift(index=2), bench.drop(index=0)], [4, 5])
        self.assertEqual(bench.attempt(watch=None, edits=[("lift", 1)]), 1)
        self.assertEqual(bench.cuts, ((1, 5, "c"), (0, 3, "a")))
        self.assertEqual(bench.left(word="abaab"), "aba")
        self.assertEqual([bench.overlong(limit=(1, 4)), bench.differs(cuts=()), bench.state(version=0)],
                         ["bc", "bb", ROW])

    def test_attributes(self):
        for bench in (Bench(EVERY, UNITS, ROW), KeepBench(EVERY, UNITS, (0, 2), ROW)):
            self.assertEqual((bench.kind, bench.units, bench.cuts, bench.MOST_EDITS), (EVERY, UNITS, ROW, 60))
            self.assertEqual(sorts((bench.kind, bench.units, bench.cuts)), sorts((EVERY, UNITS, ROW)))
            for name in ("kind", "units", "cuts"):
                self.assertIn(name, vars(bench))
        self.assertEqual(vars(KeepBench(EVERY, UNITS, (0, 2), ROW))["limit"], (0, 2))
        self.assertEqual(Bench(EVERY, UNITS).cuts, ())
        self.assertEqual(KeepBench((1, ((None,),), (True,)), ((1,),), (0, 0)).cuts, ())


class CreationTest(unittest.TestCase):
    def test_wrong_values(self):
        scheme = ((2, ((0, 1), (0, None)), (True, False)), ((1, 1), (1, 4)), ((1, 9, "b"), (0, 3, "")))
        for at in range(3):
            for value in broken(scheme[at]):
                values = scheme[:at] + (value,) + scheme[at + 1:]
                error = scheme_error(values)
                if error is None:
                    bench = Bench(*values)
                    self.assertEqual((bench.kind, bench.units, bench.cuts), values)
                else:
                    with self.assertRaises(BadScheme) as caught:
                        Bench(*values)
                    self.assertEqual(caught.exception.error, error, values)

    def test_the_first_error(self):
        for values, error in (((None, None, None), ("kind", "kind")), ((EVERY, None, None), ("units", None)),
                              ((EVERY, UNITS, None), ("cuts", (None, "cuts"))),
                              ((EVERY, UNITS, [ROW[0]]), ("cuts", (None, "cuts"))),
                              ((EVERY, UNITS, ((0, 1, ""),) * 4), ("cuts", (None, "many")))):
            self.assertEqual(outcome(Bench, *values), ("BadScheme", {"error": error}))


class EditsTest(unittest.TestCase):
    def fail(self, bench, name, fields, function, *values, **named):
        """Checks that a call raises an error and changes nothing."""
        before = with_redo(bench)
        self.assertEqual(outcome(function, *values, **named), (name, fields), values)
        self.assertEqual(with_redo(bench), before, values)

    def test_each_edit_by_hand(self):
        bench = Bench(EVERY, UNITS)
        for edit, values, cuts in (("add", [(0, 2, "")], ((0, 2, ""),)),
                                   ("add", [(1, 5, "c")], ((0, 2, ""), (1, 5, "c"))),
                                   ("lift", [1], ((1, 5, "c"), (0, 2, ""))), ("lift", [0], ((1, 5, "c"), (0, 2, ""))),
                                   ("allow", [1, 20], ((1, 5, "c"), (0, 20, ""))),
                                   ("allow", [1, 20], ((1, 5, "c"), (0, 20, ""))),
                                   ("change", [0, (1, 0, "abc")], ((1, 0, "abc"), (0, 20, ""))),
                                   ("change", [0, (1, 0, "abc")], ((1, 0, "abc"), (0, 20, ""))),
                                   ("add", [(1, 0, "abc")], ((1, 0, "abc"), (0, 20, ""), (1, 0, "abc"))),
                                   ("lift", [2], ((1, 0, "abc"), (1, 0, "abc"), (0, 20, ""))),
                                   ("drop", [0], ((1, 0, "abc"), (0, 20, ""))), ("drop", [1], ((1, 0, "abc"),)),
                                   ("drop", [0], ())):
            version = getattr(bench, edit)(*values)
            self.assertEqual((version, type(version)), (len(bench), int))
            self.assertEqual((bench.cuts, sorts(bench.cuts)), (cuts, sorts(cuts)))
        self.assertEqual(len(bench), 13)

    def test_indexes_that_are_none(self):
        for many in range(4):
            bench = Bench(EVERY, UNITS, ((0, 3, "a"), (1, 4, "b"), (0, 5, ""))[:many])
            bench.attempt([("add", (0, 9, "")), ("drop", many)]) if many < 3 else bench.lift(0)
            bench.undo()
            for index in NO_NUMBERS + [many, many + 1, -many, -many - 1]:
                if type(index) is int and 0 <= index < many:
                    continue
                for name, values in (("drop", [index]), ("lift", [index]), ("allow", [index, 3]),
                                     ("allow", [index, 21]), ("change", [index, (0, 1, "")]),
                                     ("change", [index, None])):
                    self.fail(bench, "NoCut", {"index": index}, getattr(bench, name), *values)
                self.fail(bench, "NoCut", {"index": index}, lambda: bench[index])
                self.fail(bench, "NoCut", {"index": index}, bench.__setitem__, index, (0, 1, ""))
                self.fail(bench, "NoCut", {"index": index}, bench.__isub__, index)

    def test_cuts_that_are_none(self):
        bench = Bench(EVERY, UNITS, ROW)
        for cut in NO_CUTS:
            self.fail(bench, "BadCuts", {"error": (2, "cut")}, bench.add, cut)
            self.fail(bench, "BadCuts", {"error": (2, "cut")}, bench.__iadd__, cut)
            self.fail(bench, "BadCuts", {"error": (1, "cut")}, bench.change, 1, cut)
            self.fail(bench, "BadCuts", {"error": (0, "cut")}, bench.__setitem__, 0, cut)
        for most in NO_NUMBERS + [21]:
            self.fail(bench, "BadCuts", {"error": (1, "cut")}, bench.allow, 1, most)

    def test_too_many_cuts(self):
        bench = Bench(EVERY, UNITS, ((0, 1, ""),) * 3)
        self.fail(bench, "BadCuts", {"error": (None, "many")}, bench.add, (0, 1, ""))
        self.fail(bench, "BadCuts", {"error": (3, "cut")}, bench.add, (0, 1, "cb"))
        self.assertEqual(bench.drop(1), 1)
        self.assertEqual(bench.add((0, 2, "")), 2)
        self.assertEqual(bench.cuts, ((0, 1, ""), (0, 1, ""), (0, 2, "")))

    def test_items(self):
        bench = Bench(EVERY, UNITS, ROW)
        self.assertEqual([bench[0], bench[1]], list(ROW))
        bench[1] = (0, 9, "ab")
        self.assertEqual((bench[1], bench.cuts, len(bench)), ((0, 9, "ab"), (ROW[0], (0, 9, "ab")), 1))
        self.assertEqual(bench.edits(), (("change", 1, (0, 9, "ab")),))
        with self.assertRaises(NoCut):
            bench[2] = (0, 1, "")
        with self.assertRaises(NoCut):
            bench[-1]

    def test_benches_are_not_iterated_over(self):
        for bench in (Bench(EVERY, UNITS, ROW), Bench(EVERY, UNITS)):
            with self.assertRaises(TypeError):
                list(bench)

    def test_operators(self):
        bench = held = Bench(EVERY, UNITS)
        bench += (0, 2, "")
        bench += (1, 3, "a")
        bench -= 0
        self.assertIs(bench, held)
        self.assertEqual(bench.edits(), (("add", (0, 2, "")), ("add", (1, 3, "a")), ("drop", 0)))
        self.assertEqual(held.cuts, ((1, 3, "a"),))
        row = [held]
        row[0] += (0, 1, "")
        self.assertIs(row[0], held)
        self.assertEqual(len(held), 4)

    def test_sixty_edits_and_one_more(self):
        for edit in (lambda bench: bench.allow(0, 5), lambda bench: bench.attempt([("lift", 0)] * 20)):
            bench = Bench(EVERY, UNITS, ROW)
            for many in range(60):
                edit(bench)
                self.assertEqual(len(bench), many + 1)
            for function, values in ((bench.add, [None]), (bench.drop, [-1]), (bench.change, [7, None]),
                                     (bench.lift, [None]), (bench.allow, [0, 99]), (bench.allow, [0, 1]),
                                     (bench.__iadd__, [(0, 1, "")]),
                                     (bench.__isub__, [0]), (bench.__setitem__, [0, (0, 1, "")]),
                                     (bench.attempt, [[("drop", 0)]])):
                self.fail(bench, "TooManyEdits", {}, function, *values)
            self.fail(bench, "BadEdits", {}, bench.attempt, None)
            self.fail(bench, "BadEdit", {"index": 0}, bench.attempt, [None])
            self.assertEqual(bench.attempt([]), 0)
            self.assertEqual([bench.undo(), edit(bench), len(bench)][::2], [59, 60])
            self.fail(bench, "TooManyEdits", {}, bench.lift, 0)
            for many in range(60):
                self.assertEqual(bench.undo(), 59 - many)
            self.assertEqual(outcome(bench.undo), ("NothingToUndo", {}))
            for many in range(60):
                self.assertEqual(bench.redo(), many + 1)
            self.assertEqual(outcome(bench.redo), ("NothingToRedo", {}))

    def test_undo_and_redo(self):
        bench = Bench(EVERY, UNITS)
        self.fail(bench, "NothingToUndo", {}, bench.undo)
        self.fail(bench, "NothingToRedo", {}, bench.redo)
        for most in range(5):
            bench.add((0, most, "")) if most < 3 else bench.drop(0)
        told = [bench.state(version=version) for version in range(6)]
        for version in (4, 3, 2):
            self.assertEqual((bench.undo(), bench.cuts), (version, told[version]))
        self.assertEqual((bench.redo(), bench.cuts, bench.redo(), bench.cuts), (3, told[3], 4, told[4]))
        self.assertEqual(bench.undo(), 3)
        # What is refused or done by no item forgets nothing, and a new edit all.
        self.fail(bench, "NoCut", {"index": 9}, bench.drop, 9)
        self.fail(bench, "BadCuts", {"error": (None, "many")}, bench.add, (0, 1, ""))
        self.fail(bench, "Rejected", {"index": 1}, bench.attempt, [("drop", 0), ("drop", 9)])
        self.assertEqual(bench.attempt(()), 0)
        self.assertEqual((bench.redo(), bench.redo()), (4, 5))
        bench.undo()
        bench.undo()
        self.assertEqual(bench.lift(0), 4)
        self.fail(bench, "NothingToRedo", {}, bench.redo)
        bench.undo()
        self.assertEqual(bench.attempt([("lift", 0)]), 1)
        self.fail(bench, "NothingToRedo", {}, bench.redo)

    def test_what_is_handed_in_is_copied(self):
        edits = [("add", (0, 2, "")), ("add", (0, 1, ""))]
        bench = Bench(EVERY, UNITS)
        bench.attempt(edits)
        del edits[:]
        self.assertEqual(bench.edits(), (("attempt", (("add", (0, 2, "")), ("add", (0, 1, "")))),))
        held = ["c"]
        self.assertEqual(outcome(bench.add, (0, 1, held))[0], "BadCuts")
        held.append("d")
        self.assertEqual(bench.cuts, ((0, 2, ""), (0, 1, "")))


class ModelTest(unittest.TestCase):
    """Edits at random, right and wrong ones, beside a plain model."""

    def check_views(self, bench, model):
        cuts = model.cuts()
        self.assertEqual((bench.cuts, sorts(bench.cuts)), (cuts, sorts(cuts)))
        done = tuple(model.done)
        self.assertEqual((bench.edits(), sorts(bench.edits())), (done, sorts(done)))
        self.assertEqual((len(bench), bool(bench)), (len(done), len(done) > 0))
        self.assertEqual(bench.state(), cuts)
        self.assertEqual((bench.kind, bench.units), (model.kind, model.units))
        for version in {0, len(done) // 2, len(done)}:
            self.assertEqual(bench.state(version=version), model.cuts(version))
        sizes = (len(model.kind[1]), len(model.units), len(cuts), len(done))
        self.assertEqual(str(bench), "%d states, %d units, %d cuts, %d edits" % sizes)

    def step(self, source, bench, model):
        """A call of the bench at random, and the same of the model."""
        choice = source.random()
        if choice < 0.15:
            return outcome(bench.undo), model.undo()
        if choice < 0.25:
            return outcome(bench.redo), model.redo()
        if choice < 0.4:
            items = [random_edit(source, model) for _ in range(source.choice([0, 1, 2, 3, 3, 20]))]
            if source.random() < 0.2:
                items.insert(source.randint(0, len(items)), source.choice([None, (), ("add",), ("undo",), ["drop", 0]]))
            if source.random() < 0.5:
                items = tuple(items)
            many = source.randint(1, 20)
            watch = source.choice([None, lambda held: len(held.edits()[-1][1]) == many])
            return outcome(bench.attempt, items, watch=watch), model.attempt(items, 20 if watch is None else many)
        edit = random_edit(source, model)
        if choice < 0.5 and edit[0] in ("add", "drop"):
            told = outcome(bench.__iadd__ if edit[0] == "add" else bench.__isub__, edit[1])
            if told[0] == "ok":
                self.assertIs(told[1], bench)
                told = "ok", len(bench)
        elif choice < 0.5 and edit[0] == "change":
            told = outcome(bench.__setitem__, edit[1], edit[2])
            told = ("ok", len(bench)) if told[0] == "ok" else told
        else:
            told = outcome(getattr(bench, edit[0]), *edit[1:])
        return told, model.edit(*edit)

    def check(self, source, bench, model, many, told):
        for _ in range(many):
            result, expected = self.step(source, bench, model)
            self.assertEqual((result, sorts(result[1])), (expected, sorts(expected[1])))
            told[result[0]] = told.get(result[0], 0) + 1
            self.check_views(bench, model)

    def test_benches(self):
        source = random.Random(1)
        told = {}
        for _ in range(40):
            kind = source.choice([EVERY, *THIN.values()])
            units = random_units(source, kind[0], 3)
            first = tuple(random_cut(source, units, 20) for _ in range(source.randint(0, 3)))
            self.check(source, Bench(kind, units, first), Model(kind, units, first), 60, told)
        self.assertEqual(sorted(told), ["BadCuts", "BadEdit", "BadEdits", "NoCut", "NothingToRedo", "NothingToUndo",
                                        "Rejected", "ok"])

    def test_full_benches(self):
        source = random.Random(2)
        told = {}
        for _ in range(4):
            bench, model = Bench(EVERY, UNITS), Model(EVERY, UNITS)
            for _ in range(55):
                self.assertEqual(outcome(bench.attempt, []), ("ok", 0))
                self.assertEqual(outcome(bench.add, (0, 1, "")) if len(bench.cuts) < 3 else outcome(bench.drop, 0),
                                 model.edit("add", (0, 1, "")) if len(model.cuts()) < 3 else model.edit("drop", 0))
            self.check(source, bench, model, 120, told)
        self.assertGreater(told["TooManyEdits"], 3)

    def test_keep_benches(self):
        source = random.Random(3)
        told = {}
        for _ in range(60):
            kind = source.choice([EVERY, *THIN.values()])
            units = random_units(source, kind[0], 3)
            limit = (source.randrange(len(units)), source.randint(0, 20))
            first = tuple(random_cut(source, units, 20) for _ in range(source.randint(0, 2)))
            first += ((limit[0], limit[1], ""),)
            bench, model = KeepBench(kind, units, limit, first), Model(kind, units, first, limit)
            self.check(source, bench, model, 40, told)
            self.assertIsNone(bench.overlong(limit))
        self.assertGreater(told["Overlong"], 50)
        self.assertGreater(told["ok"], 300)

    def test_a_new_bench_on_which_the_edits_are_done(self):
        source = random.Random(4)
        for _ in range(40):
            units = random_units(source, 3, 3)
            first = tuple(random_cut(source, units, 20) for _ in range(source.randint(0, 3)))
            bench, model = Bench(EVERY, units, first), Model(EVERY, units, first)
            for _ in range(50):
                self.step(source, bench, model)
            other = Bench(EVERY, units, first)
            for at, edit in enumerate(bench.edits()):
                self.assertEqual(bench.state(version=at), other.cuts)
                told = getattr(other, edit[0])(*edit[1:])
                self.assertEqual(told, len(edit[1]) if edit[0] == "attempt" else at + 1)
            self.assertEqual((other.cuts, other.edits(), other), (bench.cuts, bench.edits(), bench))


class QueriesTest(unittest.TestCase):
    def test_left(self):
        bench = Bench(EVERY, UNITS, ROW)
        for word in words_of(EVERY, 5):
            self.assertEqual(bench.left(word), left(UNITS, ROW, word))
        self.assertEqual(bench.left("a" * 400), "aa")
        self.assertEqual(Bench(EVERY, UNITS).left("abc" * 133 + "a"), "abc" * 133 + "a")
        # A word of the letters, not only of the kind.
        self.assertEqual(Bench((2, ((None, None),), (False,)), ((1, 1),)).left("abab"), "abab")
        for word in ("a" * 401, "d", "abcd", "A", "a b", "ab\n", " ", "-", None, 0, True, ("a",), ["a"], {}, "\xe4"):
            before = with_redo(bench)
            self.assertEqual(outcome(bench.left, word), ("BadWord", {"word": word}))
            self.assertEqual(with_redo(bench), before)
        for letters in range(1, 5):
            bench = Bench((letters, ((0,) * letters,), (True,)), ((1,) * letters,))
            for name in "abcde":
                self.assertEqual(outcome(bench.left, name)[0], "ok" if name < "abcde"[letters] else "BadWord")

    def test_overlong(self):
        source = random.Random(5)
        for _ in range(100):
            units = random_units(source, 3, 3)
            row = tuple(random_cut(source, units, 5) for _ in range(source.randint(0, 3)))
            bench = Bench(EVERY, units, row)
            limit = (source.randrange(len(units)), source.randint(0, 6))
            word = bench.overlong(limit)
            self.assertEqual(word, overlong(EVERY, units, row, limit))
            if word is not None:
                self.assertGreater(counted(units[limit[0]], bench.left(word)), limit[1])
        bench = Bench(EVERY, UNITS, ROW)
        for limit in (None, 0, "", (), (0,), (0, 1, 2), [0, 1], (2, 1), (-1, 1), (True, 1), (0, True), (0, 21), (0, -1),
                      (0, None), ("0", 1), (0, (1,)), ((0, 1),), {0: 1}, ((1, 1, 1), 4), (0, 10 ** 59)):
            self.assertEqual(outcome(bench.overlong, limit), ("BadLimit", {"limit": limit}))
        for limit in ((0, 0), (0, 20), (1, 0), (1, 20)):
            self.assertEqual(outcome(bench.overlong, limit), ("ok", overlong(EVERY, UNITS, ROW, limit)))
        self.assertEqual(outcome(Bench(EVERY, UNITS[:1]).overlong, (1, 1)), ("BadLimit", {"limit": (1, 1)}))

    def test_differs(self):
        source = random.Random(6)
        for _ in range(100):
            units = random_units(source, 3, 3)
            row, other = [tuple(random_cut(source, units, 5) for _ in range(source.randint(0, 3))) for _ in range(2)]
            bench = Bench(EVERY, units, row)
            self.assertEqual(bench.differs(other), unlike_cuts(EVERY, units, row, other))
            self.assertIsNone(bench.differs(row))
        bench = Bench(EVERY, UNITS, ROW)
        for cuts, error in ((None, (None, "cuts")), ([], (None, "cuts")), ([ROW[0]], (None, "cuts")),
                            ("", (None, "cuts")), (ROW[0], (0, "cut")), ((ROW[0], None), (1, "cut")),
                            ((ROW[0],) * 4, (None, "many")),
                            ((ROW[0],) * 3 + (0,), (3, "cut")), (((0, 1, "d"),), (0, "cut"))):
            self.assertEqual(outcome(bench.differs, cuts), ("BadCuts", {"error": error}))

    def test_state_and_edits(self):
        bench = Bench(EVERY, UNITS, ROW)
        bench.lift(1)
        bench.drop(0)
        self.assertEqual([bench.state(), bench.state(version=None), bench.state(version=0), bench.state(version=1),
                          bench.state(version=2)], [ROW[:1], ROW[:1], ROW, ROW[::-1], ROW[:1]])
        for version in (-1, 3, True, False, "0", "", (), (0,), [], {}, 10 ** 59, -10 ** 59):
            self.assertEqual(outcome(bench.state, version=version), ("NoVersion", {"version": version}))
        bench.undo()
        self.assertEqual(outcome(bench.state, version=2), ("NoVersion", {"version": 2}))
        self.assertEqual(bench.edits(), (("lift", 1),))
        self.assertEqual(Bench(EVERY, UNITS).edits(), ())

    def test_results_do_not_change(self):
        bench = Bench(EVERY, UNITS)
        seen = []
        for most in range(3):
            bench.add((0, most, ""))
            seen.append((bench.cuts, bench.edits(), bench.state(version=0)))
        self.assertEqual([len(cuts) for cuts, _, _ in seen], [1, 2, 3])
        self.assertEqual([len(edits) for _, edits, _ in seen], [1, 2, 3])
        self.assertEqual([first for _, _, first in seen], [()] * 3)


class ComparisonTest(unittest.TestCase):
    def test_len_str_and_bool(self):
        bench = Bench((2, ((0, 1), (None, None)), (True, True)), ((1, 1),), ())
        self.assertEqual((len(bench), str(bench), bool(bench)), (0, "2 states, 1 units, 0 cuts, 0 edits", False))
        bench.attempt([("add", (0, 1, "")), ("add", (0, 2, ""))])
        self.assertEqual((len(bench), str(bench), bool(bench)), (1, "2 states, 1 units, 2 cuts, 1 edits", True))
        bench.undo()
        self.assertEqual((len(bench), str(bench), bool(bench)), (0, "2 states, 1 units, 0 cuts, 0 edits", False))

    def check_equal(self, one, other, equal):
        for left_one, right_one in ((one, other), (other, one)):
            self.assertIs(left_one == right_one, equal)
            self.assertIs(left_one != right_one, not equal)

    def test_benches_beside_one_another(self):
        one = Bench(EVERY, UNITS, ROW)
        self.check_equal(one, one, True)
        self.check_equal(one, Bench(EVERY, UNITS, ROW), True)
        self.check_equal(one, Bench(EVERY, UNITS, ROW[:1]), False)
        self.check_equal(one, Bench(EVERY, UNITS, ROW[::-1]), False)
        self.check_equal(one, Bench(EVERY, UNITS[::-1], ROW), False)
        self.check_equal(one, Bench((3, ((0, 0, 0),), (False,)), UNITS, ROW), False)
        # Whatever the edits are.
        other = Bench(EVERY, UNITS)
        other.attempt([("add", ROW[0]), ("add", ROW[1])])
        self.check_equal(one, other, True)
        other.undo()
        self.check_equal(one, other, False)

    def test_benches_that_keep_a_limit(self):
        one = KeepBench(EVERY, UNITS, (0, 2), ROW)
        self.check_equal(one, KeepBench(EVERY, UNITS, (0, 2), ROW), True)
        self.check_equal(one, KeepBench(EVERY, UNITS, (0, 3), ROW), False)
        self.check_equal(one, KeepBench(EVERY, UNITS, (1, 6), ROW), False)
        self.check_equal(one, KeepBench(EVERY, UNITS, (0, 2), ROW[:1]), False)
        self.check_equal(one, Bench(EVERY, UNITS, ROW), False)
        one.lift(1)
        self.check_equal(one, KeepBench(EVERY, UNITS, (0, 2), ROW[::-1]), True)

    def test_other_values(self):
        for bench in (Bench(EVERY, UNITS, ROW), KeepBench(EVERY, UNITS, (0, 2), ROW)):
            for value in (None, 0, "", (), ROW, (EVERY, UNITS, ROW), [bench], (bench,), {}, str(bench), len(bench),
                          False, consoles.Console(bench), object(), Bench):
                self.check_equal(bench, value, False)


if __name__ == "__main__":
    unittest.main()
