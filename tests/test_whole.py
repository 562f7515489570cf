"""What the document promises over the whole program: the interface, arguments, results, and the guarantees."""

import copy
import importlib
import inspect
import random
import unittest

from models import NO_CUTS, NO_NUMBERS, Model, outcome, random_edit
from samples import (KINDS, THIN, broken, counted, is_word_of, plain_left, random_cut, random_form, random_units,
                     words_of)
from unitlimits import errors
from unitlimits.benches import Bench, KeepBench
from unitlimits.consoles import Console
from unitlimits.cuts import cuts_error, left, overlong, parts, unlike_cuts
from unitlimits.forms import above, greatest, paper, paper_holds, unlike, worth
from unitlimits.limits import breach, most_kept
from unitlimits.parting import most_parts, stuck
from unitlimits.roads import drift, unlike_roads
from unitlimits.texts import parse_scheme, scheme_error, scheme_text
from unitlimits.words import is_of, kind_error, used

EVERY = (3, ((0, 0, 0),), (True,))
KIND = (2, ((0, 1), (0, None)), (True, True))
UNITS = ((1, 1), (1, 3))
CUTS = ((1, 9, "b"), (0, 3, ""))
SCHEME = (KIND, UNITS, CUTS)
TEXT = "letters ab\nstate 0 1 end\nstate 0 . end\nunit 1 1\nunit 1 3\ncut 1 9 b\ncut 0 3 -"
PAPER = ("heights", (0, 1))

# The modules of the interface with all that they define, and arguments for each function, in the order of its names.
MODULES = {
    "bounds": {},
    "errors": {},
    "words": {"kind_error": {"value": KIND}, "is_of": {"kind": KIND, "word": "ab"}, "used": {"kind": KIND}},
    "forms": {
        "worth": {"form": (1, -3), "word": "abab"},
        "unlike": {"kind": KIND, "one": (1, 3), "other": (1, 2)},
        "greatest": {"kind": KIND, "form": (-1, 1)},
        "above": {"kind": KIND, "form": (-1, 2), "bound": 3},
        "paper": {"kind": KIND, "form": (-1, 1), "bound": 1},
        "paper_holds": {"kind": KIND, "form": (-1, 1), "bound": 1, "value": PAPER},
    },
    "limits": {
        "breach": {"kind": KIND, "one": ((1, 1), 4), "other": ((1, 3), 7)},
        "most_kept": {"kind": KIND, "limit": ((1, 3), 7), "form": (2, 5)},
    },
    "cuts": {
        "cuts_error": {"letters": 2, "units": UNITS, "value": CUTS},
        "left": {"units": UNITS, "cuts": CUTS, "word": "abababab"},
        "parts": {"units": UNITS, "cut": CUTS[0], "word": "abababab"},
        "unlike_cuts": {"kind": KIND, "units": UNITS, "one": CUTS, "other": CUTS[::-1]},
        "overlong": {"kind": KIND, "units": UNITS, "cuts": CUTS, "limit": (1, 4)},
    },
    "parting": {
        "stuck": {"kind": KIND, "units": UNITS, "cut": (1, 3, "b")},
        "most_parts": {"kind": KIND, "units": UNITS, "cut": (1, 4, ""), "limit": (0, 5)},
    },
    "roads": {
        "comes_to": {"units": ((1, 1), (0, 1)), "road": (0, 1), "word": "aabaab", "number": 3},
        "back": {"units": ((1, 1), (0, 1)), "road": (0, 1), "word": "aabaab", "place": 5},
        "unlike_roads": {"kind": KIND, "units": ((1, 1), (0, 1)), "one": (0,), "other": (0, 1), "most": 5},
        "drift": {"kind": KIND, "units": ((1, 1), (1, 0)), "road": (0, 1), "most": 5},
    },
    "texts": {
        "scheme_error": {"value": SCHEME}, "scheme_text": {"scheme": SCHEME}, "parse_scheme": {"value": TEXT},
    },
    "benches": {"Bench": {"kind": KIND, "units": UNITS, "cuts": CUTS},
                "KeepBench": {"kind": KIND, "units": UNITS, "limit": (0, 3), "cuts": CUTS}},
    "consoles": {"Console": {"bench": Bench(KIND, UNITS)}},
}
# The methods of a bench with arguments for each, those by keyword alone behind the others.
METHODS = {
    "add": {"cut": (0, 1, "a")}, "drop": {"index": 0}, "change": {"index": 1, "cut": (0, 2, "a")}, "lift": {"index": 1},
    "allow": {"index": 0, "most": 3}, "undo": {}, "redo": {},
    "attempt": {"edits": [("lift", 1), ("drop", 0)], "watch": None}, "left": {"word": "abab"},
    "overlong": {"limit": (1, 4)}, "differs": {"cuts": CUTS[:1]}, "state": {"version": 0}, "edits": {},
}


def functions():
    """Triples of a module's name, a function or class, and arguments for it."""
    for module, names in MODULES.items():
        for name, arguments in names.items():
            yield module, getattr(importlib.import_module(f"unitlimits.{module}"), name), arguments


def plain(value):
    """Whether a value is made of Python's own tuples, texts, integers, bools and None."""
    if type(value) is tuple:
        return all(map(plain, value))
    return value is None or type(value) in (str, int, bool)


class InterfaceTest(unittest.TestCase):
    def test_modules_define_all(self):
        for module, made, arguments in functions():
            self.assertEqual(made.__module__, f"unitlimits.{module}")
            self.assertEqual(list(inspect.signature(made).parameters), list(arguments), made)

    def test_errors(self):
        for name in ("UnitError", "BadText", "BadScheme", "BadCuts", "BadWord", "BadLimit", "Overlong", "Busy",
                     "TooManyEdits", "NothingToUndo", "NothingToRedo", "BadEdits", "BadEdit", "Rejected", "NoCut",
                     "NoVersion"):
            self.assertEqual(getattr(errors, name).__module__, "unitlimits.errors")

    def test_the_values_of_the_examples_here(self):
        self.assertEqual((scheme_error(SCHEME), scheme_text(SCHEME), parse_scheme(TEXT)), (None, TEXT, SCHEME))
        self.assertTrue(paper_holds(KIND, (-1, 1), 1, PAPER))


class ArgumentsTest(unittest.TestCase):
    def test_by_position_and_by_names_in_another_order(self):
        for module, made, arguments in functions():
            turned = dict(reversed(list(arguments.items())))
            before = copy.deepcopy({name: value for name, value in arguments.items() if name != "bench"})
            results = [made(*arguments.values()), made(**arguments), made(**turned), made(*arguments.values())]
            for value in results:
                if module in ("benches", "consoles"):
                    self.assertIs(type(value), made)
                else:
                    self.assertTrue(plain(value), (made, value))
            if module != "consoles":
                self.assertEqual(results, results[:1] * 4, made)
            after = {name: value for name, value in arguments.items() if name != "bench"}
            self.assertEqual(after, before, made)

    def test_methods_by_names_in_another_order(self):
        for made, more in ((Bench, ()), (KeepBench, ((0, 20),))):
            for name, arguments in METHODS.items():
                benches = []
                for _ in range(3):
                    bench = made(KIND, UNITS, *more, CUTS[::-1])
                    bench.lift(1)
                    bench.lift(0)
                    bench.undo()
                    benches.append(bench)
                keywords = {word: value for word, value in arguments.items() if word in ("watch", "version")}
                others = [value for word, value in arguments.items() if word not in keywords]
                turned = dict(reversed(list(arguments.items())))
                before = copy.deepcopy(arguments)
                results = [getattr(benches[0], name)(*others, **keywords), getattr(benches[1], name)(**arguments),
                           getattr(benches[2], name)(**turned)]
                self.assertEqual(results, results[:1] * 3, name)
                self.assertTrue(plain(results[0]), name)
                self.assertEqual(arguments, before, name)
                self.assertEqual([bench.cuts for bench in benches], [benches[0].cuts] * 3, name)
                self.assertTrue(plain((benches[0].kind, benches[0].units, benches[0].cuts, benches[0].edits())), name)

    def test_console(self):
        console = Console(bench=Bench(KIND, UNITS))
        self.assertEqual((console.execute(line="undo"), console.execute("undo")), ("error NothingToUndo",) * 2)

    def test_results_for_many_questions(self):
        source = random.Random(1)
        for kind in [kind for kind, _ in KINDS.values()] + list(THIN.values()):
            units = random_units(source, kind[0], 2)
            row, other = [tuple(random_cut(source, units, 4) for _ in range(2)) for _ in range(2)]
            form, limit = random_form(source, kind[0], -2, 2), (source.randrange(len(units)), 4)
            road = tuple(source.randrange(len(units)) for _ in range(3))
            for result in (used(kind), unlike(kind, form, units[0]), greatest(kind, form), above(kind, form, 2),
                           paper(kind, form, 2), breach(kind, (units[0], 4), (units[-1], 5)),
                           most_kept(kind, (units[0], 4), form), unlike_cuts(kind, units, row, other),
                           overlong(kind, units, row, limit), stuck(kind, units, row[0]),
                           most_parts(kind, units, row[0], limit), unlike_roads(kind, units, road, road[:1], 3),
                           drift(kind, units, road, 3), parts(units, row[0], "a" * 9), parse_scheme(scheme_text(
                               (kind, units, row)))):
                self.assertTrue(plain(result), result)


class AnyValueTest(unittest.TestCase):
    """Attributes and results of the package, also with parts replaced, where any value may be handed in."""

    def values(self):
        bench = Bench(KIND, UNITS, CUTS)
        bench.attempt([("lift", 1), ("allow", 0, 5)])
        bench.drop(0)
        held = [KIND, UNITS, CUTS, SCHEME, TEXT, bench.edits(), bench.cuts, bench.state(version=1), PAPER,
                paper(KIND, (1, 1), 5), greatest(KIND, (-1, 2)), most_kept(KIND, ((1, 1), 4), (1, 1)), str(bench),
                scheme_error((KIND, UNITS, None)), outcome(bench.add, None)[1], outcome(bench.drop, 9)[1]]
        return held + [[value] for value in held] + [{0: value} for value in held] + [(value,) for value in held]

    def test_all_functions_that_take_any_value(self):
        source = random.Random(2)
        for value in self.values():
            for other in [value, *source.sample(list(broken(value)), 40)]:
                before = copy.deepcopy(other)
                self.assertIn(kind_error(other), (None, "kind", "letters", "rows", "ends"))
                self.assertIn(paper_holds(KIND, (-1, 1), 1, other), (True, False))
                self.assertTrue(plain(cuts_error(2, UNITS, other)))
                self.assertTrue(plain(scheme_error(other)))
                self.assertIn(outcome(parse_scheme, other)[0], ("ok", "BadText", "BadScheme"))
                self.check_bench(other)
                self.assertEqual(other, before)

    def check_bench(self, value):
        """Checks that a bench raises only errors that the document names."""
        self.assertIn(outcome(Bench, value, UNITS)[0], ("ok", "BadScheme"))
        self.assertIn(outcome(Bench, KIND, value, value)[0], ("ok", "BadScheme"))
        self.assertIn(outcome(KeepBench, KIND, UNITS, value, CUTS)[0], ("BadLimit", "Overlong"))
        for bench in (Bench(KIND, UNITS, CUTS), KeepBench(KIND, UNITS, (0, 3), CUTS)):
            for function, values in ((bench.add, [value]), (bench.drop, [value]), (bench.change, [0, value]),
                                     (bench.change, [value, value]), (bench.lift, [value]), (bench.allow, [0, value]),
                                     (bench.allow, [value, value]), (bench.differs, [value])):
                self.assertIn(outcome(function, *values)[0], ("ok", "NoCut", "BadCuts", "Overlong"))
            self.assertIn(outcome(bench.left, value)[0], ("ok", "BadWord"))
            self.assertIn(outcome(bench.overlong, value)[0], ("ok", "BadLimit"))
            self.assertIn(outcome(lambda: bench.state(version=value))[0], ("ok", "NoVersion"))
            self.assertIn(outcome(lambda: bench[value])[0], ("ok", "NoCut"))
            self.assertIn(outcome(bench.attempt, value)[0], ("ok", "BadEdits", "BadEdit", "Rejected"))
            self.assertIs(bench == value, False)
            self.assertIsInstance(Console(bench).execute(value), str)

    def test_deep_and_great_values(self):
        deep = ()
        for _ in range(19):
            deep = (deep,)
        for value in (deep, [deep], {0: deep}, (0,) * 5999, [None] * 6000, {at: at for at in range(3000)}, 10 ** 60 - 1,
                      1 - 10 ** 60, "a" * 3500, "\n" * 3500, "letters a\n" * 300, ((0,) * 70,) * 80, ("add",) * 3000):
            self.assertIsNotNone(kind_error(value))
            self.assertIs(paper_holds(KIND, (1, 1), 1, value), False)
            self.assertIsNotNone(cuts_error(2, UNITS, value))
            self.assertEqual(scheme_error(value), ("scheme", None))
            self.assertEqual(outcome(parse_scheme, value)[0], "BadText")
            self.check_bench(value)


class GuaranteesTest(unittest.TestCase):
    def questions(self, seed, many):
        """Kinds at random with units, rows of cuts and a limit for these."""
        source = random.Random(seed)
        kinds = [kind for kind, _ in KINDS.values()] + list(THIN.values())
        for _ in range(many):
            kind = source.choice(kinds)
            units = random_units(source, kind[0], 2)
            rows = [tuple(random_cut(source, units, 4) for _ in range(source.randint(0, 3))) for _ in range(2)]
            yield source, kind, units, rows, (source.randrange(len(units)), source.randint(0, 4))

    def test_a_first_words(self):
        for source, kind, units, (one, other), limit in self.questions(1, 150):
            words = list(words_of(kind, 6))
            form, bound = random_form(source, kind[0], -2, 2), source.randint(-3, 5)
            road = tuple(source.randrange(len(units)) for _ in range(3))
            cut = random_cut(source, units, 4)
            for told, is_looked_for in (
                    (above(kind, form, bound), lambda word: worth(form, word) > bound),
                    (unlike(kind, form, units[0]), lambda word: worth(form, word) != worth(units[0], word)),
                    (breach(kind, (units[0], 4), (units[-1], bound + 3)), lambda word: (
                        worth(units[0], word) <= 4 and worth(units[-1], word) > bound + 3)),
                    (unlike_cuts(kind, units, one, other), lambda word: left(units, one, word) != left(
                        units, other, word)),
                    (overlong(kind, units, one, limit), lambda word: worth(units[limit[0]], left(
                        units, one, word)) > limit[1]),
                    (stuck(kind, units, cut), lambda word: parts(units, cut, word) is None)):
                found = [word for word in words if is_looked_for(word)]
                self.assertEqual(found[:1], [told] if told is not None and len(told) <= 6 else [])
            pair = unlike_roads(kind, units, road, road[:1], 3)
            if pair is None:
                self.assertEqual(drift(kind, units, road, 3), 0)

    def test_b_greatest_numbers(self):
        for source, kind, units, _, (index, most) in self.questions(2, 150):
            words = list(words_of(kind, 6))
            form, cut = random_form(source, kind[0], -2, 2), random_cut(source, units, 4)
            for told, is_right, measure in (
                    (greatest(kind, form), lambda word: True, lambda word: worth(form, word)),
                    (most_kept(kind, (units[index], most), form), lambda word: worth(units[index], word) <= most,
                     lambda word: worth(form, word)),
                    (most_parts(kind, units, cut, (index, most)), lambda word: worth(
                        units[index], word) <= most and parts(units, cut, word) is not None,
                     lambda word: len(parts(units, cut, word)))):
                if told[0] == "most":
                    self.assertTrue(is_of(kind, told[2]) and is_right(told[2]))
                    self.assertEqual(measure(told[2]), told[1])
                    self.assertTrue(all(measure(word) <= told[1] for word in words if is_right(word)))
                elif told[0] == "ring":
                    sizes = [measure(told[1] + told[2] * many + told[3]) for many in range(5)]
                    self.assertEqual(sorted(set(sizes)), sizes)
                else:
                    self.assertEqual([word for word in words if is_right(word)], [])

    def test_c_and_d_papers(self):
        for source, kind, _, _, _ in self.questions(3, 150):
            form, bound = random_form(source, kind[0], -2, 2), source.randint(-3, 5)
            told = paper(kind, form, bound)
            self.assertTrue(paper_holds(kind, form, bound, told))
            self.assertEqual(told[0] == "heights", above(kind, form, bound) is None)
            for value in broken(told):
                if paper_holds(kind, form, bound, value):
                    self.assertTrue(value[0] == "word" or above(kind, form, bound) is None)

    def test_e_what_is_left(self):
        for source, kind, units, (row, _), _ in self.questions(4, 300):
            word = "".join(source.choice("abcd"[:kind[0]]) for _ in range(source.randint(0, 12)))
            rest = left(units, row, word)
            self.assertEqual(rest, plain_left(units, row, word))
            self.assertTrue(word.startswith(rest))
            self.assertEqual(left(units, row, rest), rest)

    def test_f_fewest_parts(self):
        for source, kind, units, _, _ in self.questions(5, 300):
            cut = random_cut(source, units, 5)
            word = "".join(source.choice("abcd"[:kind[0]]) for _ in range(source.randint(0, 9)))
            # For each border the fewest texts of up to the cut's number that the letters ahead of it are parted into.
            fewest = {0: 0}
            for at in range(1, len(word) + 1):
                if at == len(word) or word[at] not in cut[2]:
                    begins = [begin for begin in fewest if counted(units[cut[0]], word[begin:at]) <= cut[1]]
                    if begins:
                        fewest[at] = 1 + min(fewest[begin] for begin in begins)
            told = parts(units, cut, word)
            self.assertEqual(None if told is None else len(told), fewest.get(len(word)), (units, cut, word))

    def test_g_edits(self):
        for source, kind, units, (first, _), limit in self.questions(6, 60):
            first = first[:2]
            for bench, other in ((Bench(kind, units, first), Bench(kind, units, first)),
                                 (outcome(KeepBench, kind, units, limit, first)[1],
                                  outcome(KeepBench, kind, units, limit, first)[1])):
                if isinstance(bench, dict):
                    continue
                model = Model(kind, units, first)
                for _ in range(30):
                    call = source.choice(["edit", "edit", "edit", "undo", "redo", "attempt"])
                    edit = random_edit(source, model, 4)
                    if call == "edit":
                        outcome(getattr(bench, edit[0]), *edit[1:])
                    elif call == "attempt":
                        many = source.randint(1, 3)
                        outcome(bench.attempt, [edit, *[random_edit(source, model, 4) for _ in range(2)]],
                                watch=lambda held: len(held.edits()[-1][1]) == many)
                    else:
                        outcome(getattr(bench, call))
                for name, *values in bench.edits():
                    getattr(other, name)(*values)
                self.assertEqual((bench.cuts, bench), (other.cuts, other))

    def test_nothing_is_kept_between_calls(self):
        bench = Bench(KIND, UNITS, CUTS)
        for value in NO_NUMBERS + NO_CUTS:
            outcome(bench.add, value)
            outcome(bench.drop, value)
        self.assertEqual((bench, len(bench)), (Bench(KIND, UNITS, CUTS), 0))
        for word in ("", "a", "abab"):
            self.assertEqual([bench.left(word), is_word_of(KIND, word)], [left(UNITS, CUTS, word), is_of(KIND, word)])


if __name__ == "__main__":
    unittest.main()
