import random
import unittest

from models import NO_CUTS, NO_NUMBERS, Model, outcome, random_edit
from samples import sorts
from test_benches import views, with_redo
from unitlimits.benches import Bench, KeepBench
from unitlimits.consoles import Console
from unitlimits.cuts import left, overlong
from unitlimits.errors import BadText, Busy, NoCut, Overlong

EVERY = (3, ((0, 0, 0),), (True,))
UNITS = ((1, 1, 1), (1, 3, 2))
ROW = ((0, 2, ""), (1, 5, "c"))
ADD, LIFT, DROP = ("add", (0, 1, "a")), ("lift", 1), ("drop", 0)


class Told(Exception):
    """An error of a watch's own."""


class Answer:
    """A value that counts as true or not, or whose truth raises an error, and that counts how often it is asked."""

    def __init__(self, worth, during=None):
        self.worth, self.during, self.asked = worth, during, 0

    def __bool__(self):
        self.asked += 1
        if self.during is not None:
            self.during()
        if isinstance(self.worth, Exception):
            raise self.worth
        return self.worth


class Sized:
    """A value without a truth of its own, which counts as false as long as it is empty."""

    def __init__(self, size):
        self.size = size

    def __len__(self):
        return self.size


def edit_calls(bench):
    """Each way to edit a bench, with right values and with wrong ones, in the order of Busy ahead of all errors."""
    console = Console(bench)

    def by_item():
        bench[0] = (0, 7, "")

    def by_adding():
        held = bench
        held += (0, 7, "")

    def by_taking():
        held = bench
        held -= 0

    return [lambda: bench.add((0, 7, "")), lambda: bench.add(None), lambda: bench.drop(0), lambda: bench.drop(-1),
            lambda: bench.change(0, (0, 7, "")), lambda: bench.change(9, None), lambda: bench.lift(0),
            lambda: bench.lift(None), lambda: bench.allow(0, 7), lambda: bench.allow(True, 99), bench.undo, bench.redo,
            lambda: bench.attempt([]), lambda: bench.attempt(None), lambda: bench.attempt([None]),
            lambda: bench.attempt([("drop", 0)]), lambda: bench.attempt([("drop", 9)], watch=lambda held: True),
            by_item, by_adding, by_taking], [
                "add 0 7 -", "add 7 7 -", "drop 0", "drop 9", "change 0 0 7 -", "lift 0", "lift 9", "allow 0 7",
                "allow 9 99", "undo", "redo"], console


class ExampleTest(unittest.TestCase):
    def test_point_12(self):
        bench = Bench((2, ((0, 0),), (True,)), ((1, 2),))
        self.assertEqual([bench.attempt([("add", (0, 3, "")), ("add", (0, 2, "b")), ("drop", 0)],
                                        watch=lambda held: len(held.cuts) == 2), bench.cuts, len(bench), bench.undo(),
                          bench.cuts], [2, ((0, 3, ""), (0, 2, "b")), 1, 0, ()])


class AttemptTest(unittest.TestCase):
    def fail(self, bench, name, fields, *values, **named):
        """Checks that an attempt raises an error of the package and changes nothing."""
        before = with_redo(bench)
        self.assertEqual(outcome(bench.attempt, *values, **named), (name, fields), values)
        self.assertEqual(with_redo(bench), before, values)

    def benches(self):
        """A bench and one that keeps a limit, each with edits, one of which was removed."""
        for bench in (Bench(EVERY, UNITS, ROW), KeepBench(EVERY, UNITS, (0, 20), ROW)):
            bench.lift(1)
            bench.allow(0, 4)
            bench.undo()
            yield bench

    def test_lists_and_tuples(self):
        for items in ([ADD, LIFT], (ADD, LIFT), [ADD] + [LIFT] * 19, (ADD,) + (LIFT,) * 19, [ADD, DROP], (ADD,)):
            for bench in self.benches():
                done = bench.attempt(items)
                self.assertEqual((done, type(done)), (len(items), int))
                self.assertEqual(bench.edits(), (("lift", 1), ("attempt", tuple(items))))
                self.assertEqual(sorts(bench.edits()), sorts((("lift", 1), ("attempt", tuple(items)))))
                self.assertEqual((len(bench), bench.undo(), bench.cuts), (2, 1, ROW[::-1]))
                self.assertEqual((bench.redo(), len(bench.edits())), (2, 2))

    def test_each_edit(self):
        bench = Bench(EVERY, UNITS, ROW)
        items = (("add", (0, 1, "a")), ("drop", 0), ("change", 1, (1, 9, "ab")), ("lift", 1), ("allow", 0, 3))
        self.assertEqual(bench.attempt(items), 5)
        self.assertEqual((bench.cuts, len(bench)), (((1, 3, "ab"), (1, 5, "c")), 1))

    def test_no_items(self):
        for bench in self.benches():
            for items in ([], ()):
                before = with_redo(bench)
                told = bench.attempt(items, watch=lambda held: self.fail("asked"))
                self.assertEqual((told, type(told)), (0, int))
                self.assertEqual(with_redo(bench), before)
            self.assertEqual(bench.redo(), 2)

    def test_no_list_or_too_long(self):
        for bench in self.benches():
            for items in (None, 0, 1, True, "", "add", {}, {0: ADD}, 10 ** 59, [LIFT] * 21, (LIFT,) * 21, [None] * 21,
                          [LIFT] * 400):
                self.fail(bench, "BadEdits", {}, items)

    def test_items_that_are_none(self):
        wrong = [None, 0, True, "", "add", "drop", (), [], {}, ("add",), ("drop",), ("change", 0), ("lift",),
                 ("allow", 0), ("add", (0, 1, ""), 0), ("drop", 0, 0), ("change", 0, (0, 1, ""), 0), ("lift", 0, 0),
                 ("allow", 0, 1, 2), ["drop", 0], ("undo",), ("redo",), ("attempt", []), ("attempt", ()), ("left", "a"),
                 ("DROP", 0), ("drop ", 0), (None, 0), (0, 0), (("drop",), 0), (["drop"], 0), ({}, 0), ("", 0),
                 (True, 0), (("drop", 0),), ("Add", None)]
        for bench in self.benches():
            for value in wrong:
                for at in (0, 1, 5, 19):
                    # Ahead of all that the items would do.
                    items = [("drop", 9)] * at + [value] + [None] * (19 - at)
                    self.fail(bench, "BadEdit", {"index": at}, items)
                    self.fail(bench, "BadEdit", {"index": at}, tuple(items))

    def test_a_refused_item_at_each_index(self):
        refused = [("drop", index) for index in NO_NUMBERS + [2]] + [("add", cut) for cut in NO_CUTS]
        refused += [("lift", 2), ("change", 2, (0, 1, "")), ("change", 0, None), ("allow", 0, 21), ("allow", -1, 1)]
        for bench in self.benches():
            for value in refused:
                for at in (0, 1, 7, 19):
                    items = [LIFT] * at + [value] + [("drop", 9)] * (19 - at)
                    self.fail(bench, "Rejected", {"index": at}, items)
                    seen = []
                    self.fail(bench, "Rejected", {"index": at}, items, watch=lambda held: seen.append(held.cuts))
                    self.assertEqual(len(seen), at)
            many = [("add", (0, 1, ""))] * 4
            self.fail(bench, "Rejected", {"index": 1}, many)

    def test_the_order_of_errors(self):
        bench = Bench(EVERY, UNITS, ROW)
        for _ in range(60):
            bench.lift(0)
        self.fail(bench, "BadEdits", {}, [None] * 21)
        self.fail(bench, "BadEdits", {}, "drop")
        self.fail(bench, "BadEdit", {"index": 1}, [("drop", 9), None])
        self.fail(bench, "TooManyEdits", {}, [("drop", 9)])
        self.fail(bench, "TooManyEdits", {}, [("lift", 0)], watch=lambda held: True)
        self.assertEqual(bench.attempt([]), 0)

    def test_without_regard_to_the_most_edits(self):
        bench = Bench(EVERY, UNITS, ROW)
        for _ in range(59):
            bench.lift(0)
        self.assertEqual(bench.attempt([LIFT] * 20), 20)
        self.assertEqual((len(bench), len(bench.edits()[-1][1])), (60, 20))


class WatchTest(unittest.TestCase):
    def test_what_a_watch_sees(self):
        for bench in (Bench(EVERY, UNITS, ROW), KeepBench(EVERY, UNITS, (0, 9), ROW)):
            bench.lift(1)
            seen = []
            items = [("drop", 0), ("add", (0, 1, "b")), ("allow", 0, 9), ("lift", 1)]
            rows = [((0, 2, ""),), ((0, 2, ""), (0, 1, "b")), ((0, 9, ""), (0, 1, "b")), ((0, 1, "b"), (0, 9, ""))]

            def watch(held):
                self.assertIs(held, bench)
                at = len(seen)
                self.assertEqual(held.cuts, rows[at])
                self.assertEqual([held[index] for index in range(len(held.cuts))], list(rows[at]))
                self.assertEqual((len(held), bool(held)), (2, True))
                self.assertEqual(held.edits(), (("lift", 1), ("attempt", tuple(items[:at + 1]))))
                self.assertEqual(sorts(held.edits()), sorts((("lift", 1), ("attempt", tuple(items[:at + 1])))))
                self.assertEqual([held.state(version=version) for version in (None, 0, 1, 2)],
                                 [rows[at], ROW, ROW[::-1], rows[at]])
                self.assertEqual(outcome(held.state, version=3), ("NoVersion", {"version": 3}))
                self.assertEqual(str(held), f"1 states, 2 units, {len(rows[at])} cuts, 2 edits")
                self.assertEqual(held.left("abcab"), left(UNITS, rows[at], "abcab"))
                self.assertEqual(held.overlong((1, 2)), overlong(EVERY, UNITS, rows[at], (1, 2)))
                self.assertIsNone(held.differs(rows[at]))
                self.assertEqual(outcome(held.left, None), ("BadWord", {"word": None}))
                self.assertEqual(outcome(held.overlong, None), ("BadLimit", {"limit": None}))
                self.assertEqual(outcome(held.differs, None), ("BadCuts", {"error": (None, "cuts")}))
                self.assertEqual(outcome(lambda: held[9]), ("NoCut", {"index": 9}))
                self.assertEqual((held.kind, held.units, held.MOST_EDITS), (EVERY, UNITS, 60))
                self.assertEqual(held == Bench(EVERY, UNITS, rows[at]), not isinstance(held, KeepBench))
                seen.append(held.cuts)

            self.assertEqual(bench.attempt(items, watch=watch), 4)
            self.assertEqual(seen, rows)

    def test_a_watch_that_ends_it(self):
        for many in range(1, 6):
            for answer in (True, 1, "x", [0], (None,), {0: 0}, Answer(True), Sized(1), -1, object()):
                bench = Bench(EVERY, UNITS, ROW)
                items = [("allow", 0, most) for most in range(5)]
                told = bench.attempt(items, watch=lambda held: answer if held.cuts[0][1] == many - 1 else None)
                self.assertEqual((told, type(told)), (many, int))
                self.assertEqual((bench.cuts[0][1], len(bench)), (many - 1, 1))
                self.assertEqual(bench.edits(), (("attempt", tuple(items[:many])),))
                self.assertEqual((bench.undo(), bench.cuts, bench.redo(), bench.cuts[0][1]), (0, ROW, 1, many - 1))

    def test_results_that_count_as_false(self):
        for answer in (False, None, 0, "", [], (), {}, Answer(False), Sized(0)):
            bench = Bench(EVERY, UNITS, ROW)
            self.assertEqual(bench.attempt([LIFT] * 3, watch=lambda held: answer), 3)

    def test_results_are_asked_once_after_each_item(self):
        for end in (None, 1, 2, 3):
            bench = Bench(EVERY, UNITS, ROW)
            answers = []

            def watch(held):
                answers.append(Answer(len(answers) + 1 == end))
                return answers[-1]

            self.assertEqual(bench.attempt([LIFT] * 3, watch=watch), end or 3)
            self.assertEqual([answer.asked for answer in answers], [1] * (end or 3))

    def check_error(self, bench, items, watch, error):
        before = with_redo(bench)
        with self.assertRaises(type(error)) as caught:
            bench.attempt(items, watch=watch)
        self.assertIs(caught.exception, error)
        self.assertEqual(with_redo(bench), before)

    def test_watches_that_raise_errors(self):
        for error in (Told("no"), ValueError("no"), LookupError("no"), KeyError("no"), RuntimeError("no"), Busy(),
                      NoCut(0), BadText(None), Overlong(""), TypeError("no"), StopIteration(), ZeroDivisionError()):
            for many in (1, 2, 3):
                for make in (lambda: Bench(EVERY, UNITS, ROW), lambda: KeepBench(EVERY, UNITS, (0, 9), ROW)):
                    bench = make()
                    bench.lift(1)
                    bench.lift(1)
                    bench.undo()
                    left_over = [many]

                    def watch(held):
                        left_over[0] -= 1
                        if left_over[0] == 0:
                            raise error

                    self.check_error(bench, [("drop", 0), ADD, LIFT], watch, error)
                    # Its result, too.
                    left_over[0] = many
                    self.check_error(bench, [("drop", 0), ADD, LIFT], lambda held: Answer(error) if len(
                        held.edits()[-1][1]) == many else False, error)
                    self.assertEqual((bench.redo(), bench.lift(0)), (2, 3))

    def test_a_watch_that_edits_the_bench(self):
        for bench in (Bench(EVERY, UNITS, ROW), KeepBench(EVERY, UNITS, (0, 9), ROW)):
            bench.lift(1)
            bench.lift(1)
            bench.undo()
            for during in (False, True):
                asked = []

                def edit():
                    calls, lines, console = edit_calls(bench)
                    for call in calls:
                        before = views(bench)
                        self.assertEqual(outcome(call), ("Busy", {}))
                        self.assertEqual(views(bench), before)
                        asked.append(call)
                    for line in lines:
                        before = views(bench)
                        self.assertEqual(console.execute(line), "error Busy")
                        self.assertEqual(views(bench), before)
                    self.assertEqual(console.execute("left a"), "a")
                    self.assertEqual(console.execute("drop x"), "unknown command")

                def watch(held):
                    return Answer(False, edit) if during else edit()

                version = len(bench)
                self.assertEqual(bench.attempt([LIFT, LIFT], watch=watch), 2)
                self.assertEqual(len(asked), 40)
                # Behind it, edits are taken again.
                self.assertEqual((len(bench), bench.lift(1), bench.undo(), bench.undo()),
                                 (version + 1, version + 2, version + 1, version))

    def test_busy_where_as_many_edits_stand_as_may(self):
        bench = Bench(EVERY, UNITS, ROW)
        for _ in range(59):
            bench.lift(0)
        seen = []
        bench.attempt([LIFT], watch=lambda held: seen.append([outcome(held.lift, 9), outcome(held.add, None),
                                                              outcome(held.attempt, None), len(held)]))
        self.assertEqual(seen, [[("Busy", {})] * 3 + [60]])
        self.assertEqual(outcome(bench.lift, 9), ("TooManyEdits", {}))

    def test_busy_ends_with_an_error(self):
        bench = Bench(EVERY, UNITS, ROW)
        with self.assertRaises(Busy):
            bench.attempt([LIFT], watch=lambda held: held.lift(0))
        self.assertEqual((len(bench), bench.lift(0)), (0, 1))
        with self.assertRaises(Busy):
            bench.attempt([LIFT], watch=lambda held: Answer(False, lambda: held.undo()))
        self.assertEqual((len(bench), bench.undo()), (1, 0))

    def test_a_watch_that_edits_another_bench(self):
        one, other = Bench(EVERY, UNITS, ROW), Bench(EVERY, UNITS, ROW)

        def inner(held):
            self.assertIs(held, other)
            self.assertEqual([outcome(bench.lift, 0) for bench in (one, other)], [("Busy", {})] * 2)

        def watch(held):
            self.assertEqual(outcome(one.lift, 0), ("Busy", {}))
            other.allow(0, len(other))
            other.attempt([LIFT, LIFT], watch=inner)
            self.assertEqual(outcome(one.lift, 0), ("Busy", {}))

        self.assertEqual(one.attempt([LIFT] * 3, watch=watch), 3)
        self.assertEqual((len(one), len(other)), (1, 6))

    def test_what_is_handed_in_changed_by_a_watch(self):
        items = [("add", (0, 1, "")), ("drop", 0), ("drop", 0)]
        bench = Bench(EVERY, UNITS)

        def watch(held):
            items.append(None)
            items[1:3] = []

        self.assertEqual(outcome(bench.attempt, items, watch=watch), ("Rejected", {"index": 2}))
        items = [("add", (0, 1, "")), ("drop", 0)]
        self.assertEqual(bench.attempt(items, watch=lambda held: items.clear()), 2)
        self.assertEqual(bench.edits(), (("attempt", (("add", (0, 1, "")), ("drop", 0))),))

    def test_a_watch_that_keeps_what_it_sees(self):
        bench = Bench(EVERY, UNITS)
        seen = []
        bench.attempt([("add", (0, most, "")) for most in range(3)], watch=lambda held: seen.append(
            (held.cuts, held.edits())))
        self.assertEqual([len(cuts) for cuts, _ in seen], [1, 2, 3])
        self.assertEqual([len(edits[0][1]) for _, edits in seen], [1, 2, 3])


class KeepTest(unittest.TestCase):
    """Attempts of benches that keep a limit."""

    def test_attempts_that_lead_through_other_cuts(self):
        bench = KeepBench(EVERY, UNITS, (1, 6), ((0, 2, ""),))
        seen = []
        self.assertEqual(bench.attempt([("drop", 0), ("add", (1, 6, "b"))],
                                       watch=lambda held: seen.append(held.overlong(held.limit))), 2)
        self.assertEqual(seen, ["abb", None])
        self.assertEqual((bench.undo(), bench.redo(), bench.cuts), (0, 1, ((1, 6, "b"),)))

    def test_what_stands_in_the_end(self):
        for items, many, word in (([("drop", 0)], 1, "abb"), ([("allow", 0, 3)], 1, "abb"),
                                  ([("allow", 0, 2)] * 2, 2, None),
                                  ([("allow", 0, 3), ("allow", 0, 2)], 1, "abb"),
                                  ([("allow", 0, 3), ("allow", 0, 2)], 2, None),
                                  ([("allow", 0, 2), ("allow", 0, 20)], 1, None),
                                  ([("allow", 0, 2), ("allow", 0, 20)], 2, "abb")):
            bench = KeepBench(EVERY, UNITS, (1, 6), ((0, 2, ""),))
            bench.lift(0)
            bench.lift(0)
            bench.undo()
            before = with_redo(bench)
            told = outcome(bench.attempt, items, watch=lambda held: len(held.edits()[-1][1]) == many)
            if word is None:
                self.assertEqual(told, ("ok", many))
                self.assertEqual(outcome(bench.redo), ("NothingToRedo", {}))
            else:
                self.assertEqual(told, ("Overlong", {"word": word}))
                self.assertEqual(with_redo(bench), before)
                self.assertEqual(bench.redo(), 2)

    def test_refused_items_ahead_of_it(self):
        bench = KeepBench(EVERY, UNITS, (1, 6), ((0, 2, ""),))
        self.assertEqual(outcome(bench.attempt, [("drop", 0), ("drop", 0)]), ("Rejected", {"index": 1}))
        self.assertEqual(outcome(bench.attempt, [("drop", 0), None]), ("BadEdit", {"index": 1}))
        with self.assertRaises(Told):
            bench.attempt([("drop", 0)], watch=lambda held: Answer(Told()))
        self.assertEqual((len(bench), bench.cuts), (0, ((0, 2, ""),)))


class ModelTest(unittest.TestCase):
    def test_attempts_at_random(self):
        source = random.Random(1)
        for _ in range(300):
            bench, model = Bench(EVERY, UNITS, ROW), Model(EVERY, UNITS, ROW)
            for _ in range(3):
                items = [random_edit(source, model, 9) for _ in range(source.randint(0, 6))]
                many = source.randint(1, 7)
                asked = []

                def watch(held):
                    asked.append(held.cuts)
                    return len(asked) == many

                told, expected = outcome(bench.attempt, items, watch=watch), model.attempt(items, many)
                self.assertEqual(told, expected, items)
                self.assertEqual((bench.cuts, bench.edits()), (model.cuts(), tuple(model.done)))


if __name__ == "__main__":
    unittest.main()
