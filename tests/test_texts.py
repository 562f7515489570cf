import random
import re
import unittest

from samples import KINDS, THIN, broken, check_interface, random_cut, random_units, replacements, sorts, timed
from unitlimits import texts
from unitlimits.cuts import cuts_error
from unitlimits.errors import BadScheme, BadText
from unitlimits.texts import parse_scheme, scheme_error, scheme_text
from unitlimits.words import kind_error

EVERY = (2, ((0, 0),), (True,))
SCHEME = ((2, ((0, 1), (0, None)), (True, False)), ((1, 1), (1, 4)), ((1, 9, "b"), (0, 3, "")))
TEXT = "letters ab\nstate 0 1 end\nstate 0 .\nunit 1 1\nunit 1 4\ncut 1 9 b\ncut 0 3 -"

# The lines of schemes in the wide sense, as regular expressions.
NUMBER = "(0|[1-9][0-9]{0,8})"
LINES = {
    "letters": "letters (a|ab|abc|abcd)",
    "state": rf"state( ({NUMBER}|\.)){{1,4}}( end)?",
    "unit": f"unit( {NUMBER}){{1,4}}",
    "cut": f"cut {NUMBER} {NUMBER} ([abcd]{{1,9}}|-)",
}
# One sign for each line, and what the signs of a text are, and of the first lines of one.
WHOLE, BEGUN = "ls+u+c*", "l?|ls+|ls+u+c*"


def signs_of(lines):
    """A sign for each line, up to the first one that no text has."""
    signs = ""
    for line in lines:
        name = next((name for name, told in LINES.items() if re.fullmatch(told, line)), None)
        if name is None:
            break
        signs += name[0]
    return signs


def plain_bad_line(text):
    """The line that BadText tells, or None, by regular expressions."""
    lines = text.split("\n")
    signs = signs_of(lines)
    for many in range(1, len(lines) + 1):
        if many > len(signs) or not re.fullmatch(BEGUN, signs[:many]):
            return many - 1
    return None if re.fullmatch(WHOLE, signs) else len(lines)


def plain_scheme(text):
    """What the lines of a text in the wide sense tell."""
    rows, ends, units, cuts = [], [], [], []
    lines = text.split("\n")
    for line in lines[1:]:
        name, *words = line.split(" ")
        if name == "state":
            rows.append(tuple(None if word == "." else int(word) for word in words if word != "end"))
            ends.append("end" in words)
        elif name == "unit":
            units.append(tuple(map(int, words)))
        else:
            cuts.append((int(words[0]), int(words[1]), words[2].replace("-", "")))
    return (len(lines[0]) - len("letters "), tuple(rows), tuple(ends)), tuple(units), tuple(cuts)


def plain_text(scheme):
    (letters, rows, ends), units, cuts = scheme
    text = "letters " + "abcd"[:letters]
    for row, end in zip(rows, ends):
        text += "\nstate"
        for item in row:
            text += " ." if item is None else " %d" % item
        text += " end" if end else ""
    for unit in units:
        text += "\nunit" + "".join(" %d" % count for count in unit)
    for unit, most, clings in cuts:
        text += "\ncut %d %d %s" % (unit, most, clings if clings else "-")
    return text


def random_scheme(source, letters, states, units, cuts):
    rows = tuple(tuple(source.choice([None, *range(states)]) for _ in range(letters)) for _ in range(states))
    told = tuple(tuple(source.randint(0, 9) for _ in range(letters)) for _ in range(units))
    row = tuple(random_cut(source, told, 20) for _ in range(cuts))
    return (letters, rows, tuple(source.random() < 0.5 for _ in range(states))), told, row


class ExampleTest(unittest.TestCase):
    def test_point_10(self):
        self.assertEqual([scheme_text(SCHEME), parse_scheme(scheme_text(SCHEME)) == SCHEME], [TEXT, True])
        for text, error, field, value in (
                ("letters a\nstate 0 end", BadText, "line", 2),
                ("letters a\nstate 0 end\nunit 1\nstate 0", BadText, "line", 3),
                ("letters ab\nstate 0 0 end\nunit 1 2\ncut 1 3 -", BadScheme, "error", ("cuts", (0, "cut")))):
            with self.assertRaises(error) as caught:
                parse_scheme(text)
            self.assertEqual(getattr(caught.exception, field), value)


class InterfaceTest(unittest.TestCase):
    def test_names_and_arguments(self):
        check_interface(self, texts, {"scheme_error": ["value"], "scheme_text": ["scheme"], "parse_scheme": ["value"]})

    def test_arguments_by_name(self):
        self.assertIsNone(scheme_error(value=SCHEME))
        self.assertEqual(scheme_text(scheme=SCHEME), TEXT)
        self.assertEqual(parse_scheme(value=TEXT), SCHEME)


class SchemeErrorTest(unittest.TestCase):
    def check(self, value, error):
        told = scheme_error(value)
        self.assertEqual((told, sorts(told)), (error, sorts(error)), value)

    def test_schemes(self):
        source = random.Random(1)
        self.check(SCHEME, None)
        for kind in [kind for kind, _ in KINDS.values()] + list(THIN.values()):
            units = random_units(source, kind[0], 9)
            self.check((kind, units, ()), None)
            self.check((kind, units, tuple(random_cut(source, units, 20) for _ in range(3))), None)
        self.check((EVERY, ((0, 9),), ()), None)
        self.check((EVERY, ((0, 0), (9, 9)), ((1, 20, "ab"),) * 3), None)

    def test_no_tuple_of_three(self):
        for value in [*replacements(), (), SCHEME[:2], SCHEME + ((),), list(SCHEME), dict(enumerate(SCHEME)), SCHEME[0],
                      SCHEME[2], TEXT]:
            if not (isinstance(value, tuple) and len(value) == 3):
                self.check(value, ("scheme", None))

    def test_kinds(self):
        for kind, error in (((5, ((0,) * 5,), (True,)), "letters"), ((0, ((),), (True,)), "letters"),
                            ((True, ((0,),), (True,)), "letters"), ((2, ((0, 1),), (True,)), "rows"),
                            ((2, ((0,),), (True,)), "rows"), ((1, ((0,),) * 9, (True,) * 9), "rows"),
                            ((1, (), ()), "rows"), ((1, ((0,),), (1,)), "ends"), ((1, ((0,),), ()), "ends"),
                            ((1, ((0,),)), "kind"),
                            ([1, ((0,),), (True,)], "kind"), (None, "kind"), ("kind", "kind")):
            self.check((kind, ((1, 1),), ()), ("kind", error))
            # The first error, whatever the others are.
            self.check((kind, None, None), ("kind", error))

    def test_units(self):
        for units in (None, [], {}, "", "11", 1, (), ((),), ((1,),), ((1, 1, 1),), ((1, 1),) * 3, ((1, 1), (1,)),
                      ((1, 10),), ((1, -1),), ((1, True),), ((1, "1"),), ((1, None),), ([1, 1],), [(1, 1)],
                      ((1, 1), [1, 1]), ((1, 1), None), ({0: 1, 1: 1},), (1, 1), ((1, (1,)),), {0: (1, 1)}):
            self.check((EVERY, units, ()), ("units", None))
            self.check((EVERY, units, None), ("units", None))
            self.check((EVERY, units, ((9, 9, 9),)), ("units", None))

    def test_cuts(self):
        units = ((1, 1),)
        for cuts, error in ((None, (None, "cuts")), ([], (None, "cuts")), ("", (None, "cuts")), ((None,), (0, "cut")),
                            (((1, 1, ""),), (0, "cut")), (((0, 21, ""),), (0, "cut")), (((0, 1, "ba"),), (0, "cut")),
                            (((0, 1, "c"),), (0, "cut")), (((0, 1, ""), (0, 1)), (1, "cut")),
                            (((0, 1, ""),) * 4, (None, "many")), (((0, 1, ""),) * 4 + (0,), (4, "cut"))):
            self.check((EVERY, units, cuts), ("cuts", error))

    def test_values_that_are_broken(self):
        for value in broken(SCHEME):
            told = scheme_error(value)
            if not isinstance(value, tuple) or len(value) != 3:
                self.assertEqual(told, ("scheme", None))
            elif kind_error(value[0]) is not None:
                self.assertEqual(told, ("kind", kind_error(value[0])))
            elif told is not None and told[0] == "cuts":
                self.assertEqual(told[1], cuts_error(value[0][0], value[1], value[2]))
            self.assertTrue(told is None or sorts(told) in ((tuple, [str, str]), (tuple, [str, type(None)]))
                            or sorts(told)[1][1][0] is tuple, value)
            if told is None:
                self.assertEqual(parse_scheme(scheme_text(value)), value)


class ThereAndBackTest(unittest.TestCase):
    def test_all_sizes(self):
        source = random.Random(2)
        for letters in range(1, 5):
            for states in range(1, 9):
                for units in (1, 2):
                    for cuts in range(4):
                        scheme = random_scheme(source, letters, states, units, cuts)
                        self.assertIsNone(scheme_error(scheme))
                        text = scheme_text(scheme)
                        self.assertEqual((text, type(text)), (plain_text(scheme), str))
                        told = parse_scheme(text)
                        self.assertEqual((told, sorts(told)), (scheme, sorts(scheme)))

    def test_by_hand(self):
        for scheme, text in (
                (SCHEME, TEXT), (((1, ((None,),), (False,)), ((0,),), ()), "letters a\nstate .\nunit 0"),
                (((1, ((0,),), (True,)), ((9,),), ((0, 20, "a"),)), "letters a\nstate 0 end\nunit 9\ncut 0 20 a"),
                (((4, ((7, 6, 5, None),) + ((None,) * 4,) * 7, (False,) * 7 + (True,)), ((0, 1, 2, 3), (9, 9, 9, 9)),
                  ((1, 0, "abcd"), (0, 10, ""), (0, 7, "ad"))),
                 "letters abcd\nstate 7 6 5 .\n" + "state . . . .\n" * 6 + "state . . . . end\nunit 0 1 2 3\n"
                 "unit 9 9 9 9\ncut 1 0 abcd\ncut 0 10 -\ncut 0 7 ad")):
            self.assertEqual(scheme_text(scheme), text)
            self.assertEqual(parse_scheme(text), scheme)

    def test_equal_calls(self):
        self.assertEqual(parse_scheme(TEXT), parse_scheme("".join(list(TEXT))))


class BadTextTest(unittest.TestCase):
    def check(self, text):
        """Checks what parse_scheme does by regular expressions; returns it."""
        line = plain_bad_line(text)
        try:
            told = parse_scheme(text)
        except BadText as error:
            self.assertEqual((error.line, type(error.line)), (line, int), text)
            return "BadText", line
        except BadScheme as error:
            self.assertIsNone(line, text)
            self.assertEqual(error.error, scheme_error(plain_scheme(text)), text)
            self.assertIsNotNone(error.error, text)
            return "BadScheme", error.error
        self.assertIsNone(line, text)
        self.assertEqual(told, plain_scheme(text), text)
        self.assertEqual(scheme_text(told), text)
        return "scheme", told

    def bad(self, text, line):
        self.assertEqual(self.check(text), ("BadText", line), text)

    def test_no_text(self):
        for value in [*replacements(), SCHEME, [TEXT], (TEXT,), {TEXT: TEXT}, 7]:
            if not isinstance(value, str):
                with self.assertRaises(BadText) as caught:
                    parse_scheme(value)
                self.assertIsNone(caught.exception.line)

    def test_cut_off_behind_each_line(self):
        lines = TEXT.split("\n")
        for many in range(len(lines) + 1):
            text = "\n".join(lines[:many])
            if many < 4:
                self.bad(text, many)
            else:
                self.assertEqual(self.check(text)[0], "scheme")
            self.bad(text + "\n", many)

    def test_each_sign_changed_left_out_or_there_twice(self):
        told = {}
        for at in range(len(TEXT)):
            for sign in ["", TEXT[at] * 2, *" \n\t\r.-+0129abcdeAnl\x0b\x85\u0660\u00b2"]:
                told[self.check(TEXT[:at] + sign + TEXT[at + 1:])[0]] = True
        self.assertEqual(sorted(told), ["BadScheme", "BadText", "scheme"])

    def test_each_word_changed_left_out_or_there_twice(self):
        words = re.split("([ \n])", TEXT)
        for at in range(0, len(words), 2):
            for word in ("", words[at] + " " + words[at], words[at] + "\n" + words[at], ".", "-", "end", "0", "9", "20",
                         "999999999", "1000000000", "00", "+1", "-1", "a", "ab", "abcd", "state", "unit", "cut",
                         "letters"):
                self.check("".join(words[:at] + [word] + words[at + 1:]))

    def test_lines_changed(self):
        lines = TEXT.split("\n")
        for at in range(len(lines)):
            self.bad("\n".join(lines[:at] + [""] + lines[at:]), at)
            self.bad("\n".join(lines[:at] + [" "] + lines[at:]), at)
            self.bad("\n".join(lines[:at] + [lines[at] + "\r"] + lines[at + 1:]), at)
            self.bad("\n".join(lines[:at] + [lines[at] + " "] + lines[at + 1:]), at)
            self.bad("\n".join(lines[:at] + [" " + lines[at]] + lines[at + 1:]), at)
            self.bad("\n".join(lines[:at] + [lines[at].replace(" ", "  ", 1)] + lines[at + 1:]), at)
            self.bad("\n".join(lines[:at] + [lines[at].replace(" ", "\t", 1)] + lines[at + 1:]), at)
            self.bad("\n".join(lines[:at] + [lines[at].upper()] + lines[at + 1:]), at)
        self.bad(TEXT + "\n", len(lines))
        self.bad(TEXT + "\n\n", len(lines))
        self.bad(TEXT.replace("\n", "\r\n"), 0)

    def test_lines_in_another_order(self):
        source = random.Random(3)
        lines = TEXT.split("\n")
        for one in range(len(lines)):
            for other in range(len(lines)):
                swapped = list(lines)
                swapped[one], swapped[other] = lines[other], lines[one]
                self.check("\n".join(swapped))
                self.check("\n".join(lines[:one] + lines[other:]))
        for _ in range(300):
            self.check("\n".join(source.choice(lines) for _ in range(source.randint(1, 9))))
            self.check("\n".join(lines[:1] + [source.choice(lines) for _ in range(source.randint(0, 9))]))
        head = "letters a"
        self.bad("state 0\n" + head, 0)
        self.bad(head + "\nunit 1", 1)
        self.bad(head + "\ncut 0 1 -", 1)
        self.bad(head + "\n" + head, 1)
        self.bad(head + "\nstate 0\ncut 0 1 -", 2)
        self.bad(head + "\nstate 0\nunit 1\nstate 0", 3)
        self.bad(head + "\nstate 0\nunit 1\ncut 0 1 -\nunit 1", 4)
        self.bad(head + "\nstate 0\nunit 1\ncut 0 1 -\n" + head, 4)

    def test_first_lines(self):
        rest = "\nstate 0\nunit 1"
        for first in ("", "letters", "letters ", "letters  a", "letters b", "letters ba", "letters ac", "letters abcde",
                      "letters aa", "letters a b", "Letters a", "letter a", "lettersa", " letters a", "letters a ", "a",
                      "letters -", "letters 1", "letters A", "letters\ta"):
            self.bad(first + rest, 0)
            self.bad(first, 0)
        for first in ("letters a", "letters ab", "letters abc", "letters abcd"):
            self.assertEqual(self.check(first + rest)[0], "scheme" if first == "letters a" else "BadScheme")
            self.bad(first, 1)

    def test_numbers(self):
        for word, is_right in (("0", True), ("1", True), ("9" * 9, True), ("1" + "0" * 8, True), ("9" * 10, False),
                               ("1" + "0" * 9, False), ("0" * 9, False), ("00", False), ("01", False), ("-0", False),
                               ("-1", False), ("+1", False), ("1.0", False), ("1e1", False), ("1_0", False),
                               ("", False),
                               ("x", False), ("0x1", False), ("\u0661", False), ("\u00b2", False), (" 1", False)):
            for text, line in ((f"letters a\nstate {word}\nunit 1\ncut 0 1 -", 1),
                               (f"letters a\nstate 0 {word} end\nunit 1\ncut 0 1 -", 1),
                               (f"letters a\nstate 0\nunit {word}\ncut 0 1 -", 2),
                               (f"letters a\nstate 0\nunit 1 {word}\ncut 0 1 -", 2),
                               (f"letters a\nstate 0\nunit 1\ncut {word} 1 -", 3),
                               (f"letters a\nstate 0\nunit 1\ncut 0 {word} -", 3)):
                if is_right:
                    self.assertNotEqual(self.check(text)[0], "BadText", text)
                else:
                    self.bad(text, line)

    def test_numbers_of_items(self):
        for many in range(7):
            for end in ("", " end"):
                told = self.check("letters a\nstate" + " 0" * many + end + "\nunit 1")
                self.assertEqual(told[0], "BadText" if many in (0, 5, 6) else "scheme" if many == 1 else "BadScheme")
                self.check("letters a\nstate" + " ." * many + end + "\nunit 1")
            told = self.check("letters a\nstate 0\nunit" + " 1" * many)
            self.assertEqual(told[0], "BadText" if many in (0, 5, 6) else "scheme" if many == 1 else "BadScheme")
            self.assertEqual(self.check("letters a\nstate 0\nunit 1\ncut" + " 0" * many), ("BadText", 3))
            told = self.check("letters a\nstate 0\nunit 1\ncut" + " 0" * many + " -")
            self.assertEqual(told[0], "scheme" if many == 2 else "BadText")
        for line in ("state 0 end end", "state end 0", "state end", "state", "state 0 END", "state 0end",
                     "state 0 . end ."):
            self.bad(f"letters a\n{line}\nunit 1", 1)
        for line in ("unit .", "unit 1 .", "unit 1 end", "unit"):
            self.bad(f"letters a\nstate 0\n{line}", 2)
        for line in ("cut . 1 -", "cut 0 . -", "cut 0 1 .", "cut 0 1 - end", "cut 0 1 - -", "cut"):
            self.bad(f"letters a\nstate 0\nunit 1\n{line}", 3)

    def test_letters_that_cling(self):
        head = "letters abcd\nstate 0 0 0 0\nunit 1 1 1 1\ncut 0 1 "
        for clings, name in (("-", "scheme"), ("a", "scheme"), ("d", "scheme"), ("ad", "scheme"), ("abcd", "scheme"),
                             ("ba", "BadScheme"), ("aa", "BadScheme"), ("dcba", "BadScheme"),
                             ("abcdabcda", "BadScheme"), ("a" * 9, "BadScheme"), ("a" * 10, "BadText"),
                             ("abcdabcdab", "BadText"), ("e", "BadText"),
                             ("ae", "BadText"), ("A", "BadText"), ("a-", "BadText"), ("--", "BadText"), ("", "BadText"),
                             ("1", "BadText"), ("a b", "BadText"), (".", "BadText")):
            self.assertEqual(self.check(head + clings)[0], name, clings)
        self.assertEqual(self.check("letters a\nstate 0\nunit 1\ncut 0 1 b")[0], "BadScheme")

    def test_the_first_error_of_the_scheme(self):
        for text, error in (
                ("letters a\n" + "state 0\n" * 9 + "unit 1", ("kind", "rows")),
                ("letters a\nstate 0\nstate 0 0\nunit 1", ("kind", "rows")),
                ("letters ab\nstate 0\nunit 1 1", ("kind", "rows")),
                ("letters a\nstate 1\nunit 1", ("kind", "rows")),
                ("letters a\nstate 999999999\nunit 10", ("kind", "rows")),
                ("letters a\nstate 0\nunit 1\nunit 1\nunit 1", ("units", None)),
                ("letters a\nstate 0\nunit 1 1", ("units", None)),
                ("letters a\nstate 0\nunit 1\nunit 1 1", ("units", None)),
                ("letters a\nstate 0\nunit 10", ("units", None)),
                ("letters a\nstate 0\nunit 10\ncut 9 9 b", ("units", None)),
                ("letters a\nstate 0\nunit 9\ncut 1 9 -", ("cuts", (0, "cut"))),
                ("letters a\nstate 0\nunit 9\ncut 0 21 -", ("cuts", (0, "cut"))),
                ("letters a\nstate 0\nunit 9\ncut 0 20 -\ncut 0 2 b", ("cuts", (1, "cut"))),
                ("letters a\nstate 0\nunit 9" + "\ncut 0 20 -" * 4, ("cuts", (None, "many"))),
                ("letters a\nstate 0\nunit 9" + "\ncut 0 20 -" * 4 + "\ncut 0 20 aa", ("cuts", (4, "cut"))),
                ("letters ab\nstate 0 0\nunit 9 9\ncut 0 20 ba", ("cuts", (0, "cut"))),
                ("letters a\nstate 1\nunit 1\nunit 1\nunit 1\ncut 9 99 dd", ("kind", "rows"))):
            self.assertEqual(self.check(text), ("BadScheme", error), text)

    def test_long_texts(self):
        for many in (200, 500):
            states, units, cuts = "\nstate 0" * many, "\nunit 1" * many, "\ncut 0 1 -" * many
            self.assertEqual(timed(self.check, "letters a" + states + "\nunit 1"), ("BadScheme", ("kind", "rows")))
            self.assertEqual(timed(self.check, "letters a\nstate 0" + units), ("BadScheme", ("units", None)))
            self.assertEqual(timed(self.check, "letters a\nstate 0\nunit 1" + cuts),
                             ("BadScheme", ("cuts", (None, "many"))))
            self.bad("letters a" + states, many + 1)
            self.bad("letters a" + states + units + cuts + "\n", 3 * many + 1)
            self.bad("letters a" + states + units + cuts + units, 3 * many + 1)
            self.bad("letters a" + states + units + cuts + "\ncut 0 1", 3 * many + 1)
            self.bad("letters a" + states[:-1] + units, many)
            self.bad("letters a" + "\n" * many, 1)

    def test_lines_at_random(self):
        source = random.Random(4)
        told = {}
        numbers = ["0", "1", "2", "7", "10", "20", "21", "999999999", "1000000000", "01", "."]
        for _ in range(2500):
            lines = ["letters " + "abcd"[:source.randint(1, 4)]]
            letters = len(lines[0]) - len("letters ")
            for _ in range(source.randint(1, 3)):
                lines.append(" ".join(["state"] + [source.choice(["0", "0", "."]) for _ in range(letters)]
                                      + source.choice([[], ["end"]])))
            for _ in range(source.randint(1, 2)):
                lines.append(" ".join(["unit"] + [str(source.randint(0, 9)) for _ in range(letters)]))
            for _ in range(source.randint(0, 3)):
                clings = "".join(name for name in "abcd"[:letters] if source.random() < 0.4)
                lines.append(f"cut 0 {source.randint(0, 20)} {clings or '-'}")
            for _ in range(source.choice([0, 1, 1, 2])):
                at = source.randrange(len(lines))
                words = lines[at].split(" ")
                words[source.randrange(len(words))] = source.choice(numbers + ["a", "bd", "-", "end", ""])
                lines[at] = " ".join(words)
            told[self.check("\n".join(lines))[0]] = True
        self.assertEqual(len(told), 3)


if __name__ == "__main__":
    unittest.main()
