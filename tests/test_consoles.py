import random
import unittest

from models import outcome
from samples import THIN, random_cut, random_units
from test_benches import views, with_redo
from unitlimits.benches import Bench, KeepBench
from unitlimits.consoles import Console
from unitlimits.texts import parse_scheme, scheme_text

EVERY = (3, ((0, 0, 0),), (True,))
UNITS = ((1, 1, 1), (1, 3, 2))
ROW = ((0, 2, ""), (1, 5, "c"))
UNKNOWN = "unknown command"


def by_hand(bench, line):
    """What a console answers, by calls of the bench; None for what is no command."""
    words = line.split(" ")
    calls = {
        "add": lambda: bench.add((int(words[1]), int(words[2]), words[3].replace("-", ""))),
        "drop": lambda: bench.drop(int(words[1])),
        "change": lambda: bench.change(int(words[1]), (int(words[2]), int(words[3]), words[4].replace("-", ""))),
        "lift": lambda: bench.lift(int(words[1])),
        "allow": lambda: bench.allow(int(words[1]), int(words[2])),
        "undo": lambda: bench.undo(),
        "redo": lambda: bench.redo(),
        "text": lambda: scheme_text((bench.kind, bench.units, bench.cuts)).replace("\n", " | "),
        "left": lambda: bench.left(words[1]) or "nothing",
        "overlong": lambda: bench.overlong((int(words[1]), int(words[2]))) or "none",
    }
    name, told = outcome(calls[words[0]])
    if name != "ok":
        return f"error {name}"
    return told if isinstance(told, str) else f"ok {told}"


class ExampleTest(unittest.TestCase):
    def test_point_13(self):
        console = Console(Bench((2, ((0, 1), (0, None)), (True, True)), ((1, 1), (1, 3))))
        lines = ("add 0 3 -", "left abab", "overlong 1 7", "overlong 1 6", "add 1 4 b", "left abab", "change 0 2 1 -",
                 "allow 1 21", "text", "left abc", "overlong 2 1", "undo", "drop  0")
        self.assertEqual([console.execute(line) for line in lines],
                         ["ok 1", "aba", "none", "bab", "ok 2", "ab", "error BadCuts", "error BadCuts",
                          "letters ab | state 0 1 end | state 0 . end | unit 1 1 | unit 1 3 | cut 0 3 - | cut 1 4 b",
                          "error BadWord", "error BadLimit", "ok 1", UNKNOWN])


class ConsoleTest(unittest.TestCase):
    def setUp(self):
        self.bench = Bench(EVERY, UNITS, ROW)
        self.console = Console(self.bench)

    def unknown(self, line):
        """Checks that a line is no command and changes nothing."""
        before = with_redo(self.bench)
        answer = self.console.execute(line)
        self.assertEqual((answer, type(answer)), (UNKNOWN, str), line)
        self.assertEqual(with_redo(self.bench), before, line)

    def error(self, line, name):
        before = with_redo(self.bench)
        answer = self.console.execute(line)
        self.assertEqual((answer, type(answer)), (f"error {name}", str), line)
        self.assertEqual(with_redo(self.bench), before, line)

    def right(self, line, answer):
        told = self.console.execute(line)
        self.assertEqual((told, type(told)), (answer, str), line)

    def test_made_by_name(self):
        console = Console(bench=self.bench)
        self.assertEqual(console.execute(line="left abc"), "ab")
        self.assertIn("execute", vars(Console))

    def test_each_command(self):
        for line, answer, cuts in (
                ("add 0 1 abc", "ok 1", ROW + ((0, 1, "abc"),)), ("drop 2", "ok 2", ROW), ("lift 1", "ok 3", ROW[::-1]),
                ("lift 0", "ok 4", ROW[::-1]), ("change 1 1 20 -", "ok 5", (ROW[1], (1, 20, ""))),
                ("allow 0 0", "ok 6", ((1, 0, "c"), (1, 20, ""))), ("left abc", "nothing", ((1, 0, "c"), (1, 20, ""))),
                ("undo", "ok 5", (ROW[1], (1, 20, ""))), ("undo", "ok 4", ROW[::-1]),
                ("redo", "ok 5", (ROW[1], (1, 20, ""))),
                ("overlong 1 5", "none", (ROW[1], (1, 20, ""))), ("overlong 1 4", "bc", (ROW[1], (1, 20, ""))),
                ("overlong 0 20", "none", (ROW[1], (1, 20, ""))), ("left " + "a" * 400, "aaaaa", (ROW[1], (1, 20, ""))),
                ("text", "letters abc | state 0 0 0 end | unit 1 1 1 | unit 1 3 2 | cut 1 5 c | cut 1 20 -",
                 (ROW[1], (1, 20, "")))):
            self.right(line, answer)
            self.assertEqual(self.bench.cuts, cuts)

    def test_errors_of_the_bench(self):
        for line, name in (("redo", "NothingToRedo"), ("undo", "NothingToUndo"), ("drop 2", "NoCut"),
                           ("drop -1", "NoCut"), ("lift 2", "NoCut"), ("allow 2 3", "NoCut"),
                           ("change 2 0 1 -", "NoCut"),
                           ("drop " + "9" * 40, "NoCut"), ("drop -" + "9" * 40, "NoCut"), ("change -1 7 7 dd", "NoCut"),
                           ("allow 0 21", "BadCuts"), ("allow 0 -1", "BadCuts"), ("allow 1 " + "9" * 40, "BadCuts"),
                           ("add 2 1 -", "BadCuts"), ("add -1 1 -", "BadCuts"), ("add 0 21 -", "BadCuts"),
                           ("add 0 1 d", "BadCuts"), ("add 0 1 ba", "BadCuts"), ("add 0 1 aa", "BadCuts"),
                           ("add 0 1 abcdabcda", "BadCuts"), ("change 0 0 1 cb", "BadCuts"),
                           ("change 1 2 1 -", "BadCuts"),
                           ("left d", "BadWord"), ("left abcd", "BadWord"), ("overlong 2 1", "BadLimit"),
                           ("overlong -1 1", "BadLimit"), ("overlong 0 21", "BadLimit"), ("overlong 0 -1", "BadLimit")):
            self.error(line, name)
        self.right("add 0 1 -", "ok 1")
        self.error("add 0 1 -", "BadCuts")

    def test_numbers(self):
        for number in ("-0", "00", "01", "-01", "+1", "1.0", "1_0", "", "-", "--1", "x", "0x1", "1e1", "9" * 41,
                       "-" + "9" * 41, "1" + "0" * 40, "0" * 40, "\u0661", "\u00b2", "a", "1\n", "\n1", "1\t", "None",
                       "True", " 1", "1 "):
            for line in ("drop {}", "lift {}", "allow {} 1", "allow 0 {}", "add {} 1 -", "add 0 {} -",
                         "change {} 0 1 -", "change 0 {} 1 -", "change 0 0 {} -", "overlong {} 1", "overlong 0 {}"):
                self.unknown(line.format(number))
        for number in ("-1", "2", "21", "1" + "0" * 39, "-1" + "0" * 39, "9" * 40, "-" + "9" * 40):
            self.error(f"drop {number}", "NoCut")
        self.right("allow 1 0", "ok 1")
        self.right("allow 1 20", "ok 2")

    def test_letters_and_words(self):
        for clings in ("", "--", "e", "A", "a-", "-a", "abcde", "a" * 10, "abcdabcdab", "1", "a,b", "\xe4", "a\n", ".",
                       "a b"):
            self.unknown(f"add 0 1 {clings}")
            self.unknown(f"change 0 0 1 {clings}")
        for clings in ("d", "abcd", "ba", "aa", "a" * 9, "dddd"):
            self.error(f"add 0 1 {clings}", "BadCuts")
            self.error(f"change 0 0 1 {clings}", "BadCuts")
        for word in ("", "-", "e", "A", "abe", "a" * 401, "a-", "1", "a\n", "\xe4", "a b", "ab "):
            self.unknown(f"left {word}")
        for word in ("d", "d" * 400, "abcd"):
            self.error(f"left {word}", "BadWord")
        self.right("left " + "c" * 400, "cc")

    def test_blanks(self):
        right = ["add 0 1 -", "drop 0", "change 0 0 1 -", "lift 0", "allow 0 1", "undo", "redo", "text", "left a",
                 "overlong 0 1"]
        for line in right:
            for other in (" " + line, line + " ", line + "\n", "\n" + line, line.replace(" ", "  ", 1) + " " * (
                    " " not in line), line.replace(" ", "\t", 1) + "\t" * (" " not in line), line + "\r", line + " 0",
                          line + " -", line.upper(), line.capitalize(), line[:-1], line[1:], line.replace(" ", ""),
                          line + line, line + "\n" + line, line + "; undo"):
                if other != line:
                    self.unknown(other)
        for line in ("", " ", "-", "add", "add 0", "add 0 1", "add 0 1 - -", "drop", "drop 0 0", "change 0 0 1", "lift",
                     "allow 0", "allow 0 1 2", "undo 1", "redo 1", "text 1", "left", "left a b", "overlong",
                     "overlong 0", "overlong 0 1 2", "help", "attempt", "state", "edits", "differs -", "len", "str",
                     "quit", "ok 1"):
            self.unknown(line)

    def test_values_that_are_no_texts(self):
        for line in (None, 0, 1, True, False, (), ("undo",), ["undo"], {}, {"undo": 1}, 10 ** 59, ROW, EVERY):
            self.unknown(line)

    def test_lines_that_are_broken(self):
        source = random.Random(1)
        signs = " -0123abcdexA\n\t."
        for line in ("add 0 1 -", "drop 1", "change 0 1 2 bc", "lift 1", "allow 0 12", "undo", "redo", "text",
                     "left abc", "overlong 1 12"):
            for _ in range(150):
                at = source.randrange(len(line) + 1)
                other = line[:at] + source.choice(signs) + line[at + source.randint(0, 1):]
                bench = Bench(EVERY, UNITS, ROW)
                before = views(bench)
                answer = Console(bench).execute(other)
                self.assertIsInstance(answer, str)
                if not answer.startswith("ok "):
                    self.assertEqual(views(bench), before)
                if answer != UNKNOWN:
                    self.assertEqual(answer, by_hand(Bench(EVERY, UNITS, ROW), other))

    def test_two_consoles_of_one_bench(self):
        one, other = Console(self.bench), Console(self.bench)
        self.assertEqual([one.execute("drop 0"), other.execute("text"), other.execute("undo"), one.execute("redo"),
                          one.execute("undo"), other.execute("undo")],
                         ["ok 1", "letters abc | state 0 0 0 end | unit 1 1 1 | unit 1 3 2 | cut 1 5 c", "ok 0", "ok 1",
                          "ok 0", "error NothingToUndo"])
        self.bench.add((0, 7, ""))
        self.assertEqual((one.execute("left " + "a" * 9), other.execute("drop 2"), len(self.bench)), ("aa", "ok 2", 2))

    def test_a_console_asked_by_a_watch(self):
        seen = []
        self.bench.lift(0)
        self.bench.lift(0)
        self.bench.undo()
        lines = ("add 0 1 -", "drop 9", "change 0 0 1 aa", "lift 0", "allow 0 99", "undo", "redo", "left aabc", "text",
                 "overlong 1 2", "overlong 9 9", "left d", "drop  0")
        self.bench.attempt([("drop", 0)], watch=lambda held: seen.extend(self.console.execute(line) for line in lines))
        text = "letters abc | state 0 0 0 end | unit 1 1 1 | unit 1 3 2 | cut 1 5 c"
        self.assertEqual(seen, ["error Busy"] * 7 + ["aa", text, "b", "error BadLimit", "error BadWord", UNKNOWN])
        self.assertEqual((self.console.execute("text"), self.console.execute("undo")), (text, "ok 1"))

    def test_too_many_edits_and_overlong_words(self):
        for many in range(60):
            self.right("lift 0", f"ok {many + 1}")
        self.error("lift 0", "TooManyEdits")
        self.error("drop 9", "TooManyEdits")
        self.bench = KeepBench(EVERY, UNITS, (1, 6), ((0, 2, ""),))
        self.console = Console(self.bench)
        for line in ("drop 0", "allow 0 3", "change 0 0 3 -"):
            self.error(line, "Overlong")
        self.right("allow 0 1", "ok 1")

    def test_the_text(self):
        source = random.Random(2)
        for kind in THIN.values():
            units = random_units(source, kind[0], 9)
            row = tuple(random_cut(source, units, 20) for _ in range(source.randint(0, 3)))
            answer = Console(Bench(kind, units, row)).execute("text")
            self.assertEqual(parse_scheme(answer.replace(" | ", "\n")), (kind, units, row))


class BesideCallsTest(unittest.TestCase):
    def test_commands_at_random(self):
        source = random.Random(3)
        told = {}

        def number():
            return source.choice(["0", "0", "1", "1", "2", "3", "20", "21", "-1", "9" * 40])

        def letters():
            return source.choice(["-", "a", "b", "ab", "abc", "d", "ba"])

        for _ in range(60):
            kind = source.choice([EVERY, *THIN.values()])
            units = random_units(source, kind[0], 3)
            one, other = Bench(kind, units), Bench(kind, units)
            console = Console(one)
            for _ in range(40):
                line = source.choice([f"add {number()} {number()} {letters()}", f"drop {number()}", f"lift {number()}",
                                      f"change {number()} {number()} {number()} {letters()}", "undo", "redo", "text",
                                      f"allow {number()} {number()}", f"left {source.choice(['a', 'abab', 'aaabcab'])}",
                                      f"overlong {number()} {number()}"])
                answer = console.execute(line)
                self.assertEqual((answer, type(answer)), (by_hand(other, line), str), line)
                self.assertEqual(views(one), views(other))
                told[answer.split(" ")[1] if answer.startswith("error") else line.split(" ")[0]] = True
        for name in ("NoCut", "BadCuts", "BadWord", "BadLimit", "NothingToUndo", "NothingToRedo", "add", "drop",
                     "change", "lift", "allow", "undo", "redo", "text", "left", "overlong"):
            self.assertIn(name, told)


if __name__ == "__main__":
    unittest.main()
