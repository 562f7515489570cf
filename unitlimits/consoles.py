"""Consoles: benches by commands, which are lines of text."""

from unitlimits.bounds import MAX_LENGTH, MAX_LETTERS
from unitlimits.errors import NoCut, UnitError
from unitlimits.numerals import clinging, integer
from unitlimits.texts import scheme_text
from unitlimits.words import are_letters

# What stands behind the name of each command: N a number, L letters that cling, W a word.
COMMANDS = {
    "add": "NNL",
    "drop": "N",
    "change": "NNNL",
    "lift": "N",
    "allow": "NN",
    "undo": "",
    "redo": "",
    "text": "",
    "left": "W",
    "overlong": "NN",
}
UNKNOWN = "unknown command"
# The most digits of a number in a command.
DIGITS = 40


class Console:
    """Does what lines ask of a bench, and tells it in lines."""

    def __init__(self, bench):
        self._bench = bench

    def execute(self, line):
        """The answer to a line."""
        if not isinstance(line, str):
            return UNKNOWN
        words = line.split(" ")
        name = words[0]
        if name not in COMMANDS or len(words) - 1 != len(COMMANDS[name]):
            return UNKNOWN
        told = [_value(sign, word) for sign, word in zip(COMMANDS[name], words[1:])]
        if None in told:
            return UNKNOWN
        try:
            return self._answer(name, told)
        except (UnitError, NoCut) as error:
            return f"error {error.__class__.__name__}"

    def _answer(self, name, told):
        """The answer to a command."""
        bench = self._bench
        if name == "text":
            return scheme_text((bench.kind, bench.units, bench.cuts)).replace("\n", " | ")
        if name == "left":
            return bench.left(told[0]) or "nothing"
        if name == "overlong":
            return bench.overlong((told[0], told[1])) or "none"
        return f"ok {self._version(name, told)}"

    def _version(self, name, told):
        """The version behind an edit, an undo or a redo."""
        bench = self._bench
        if name == "add":
            return bench.add(tuple(told))
        if name == "drop":
            return bench.drop(told[0])
        if name == "change":
            return bench.change(told[0], tuple(told[1:]))
        if name == "lift":
            return bench.lift(told[0])
        if name == "allow":
            return bench.allow(told[0], told[1])
        return bench.undo() if name == "undo" else bench.redo()


def _value(sign, word):
    """What a word of a command tells in the place of a sign, or None if it must not stand there."""
    if sign == "N":
        return integer(word, DIGITS)
    if sign == "L":
        return clinging(word)
    return word if 1 <= len(word) <= MAX_LENGTH and are_letters(word, MAX_LETTERS) else None
