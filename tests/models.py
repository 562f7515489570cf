"""Plain models of benches, which are asked beside benches, and values for these."""

from samples import is_number, plain_left

from unitlimits.cuts import overlong
from unitlimits.errors import NoCut, NoVersion, UnitError

NAMES = {"add": 1, "drop": 1, "change": 2, "lift": 1, "allow": 2}

# What is no index of cuts, and no number that a cut may have.
NO_NUMBERS = [-1, True, False, None, "", "0", "1", (), (0,), [], [0], {}, {0: 0}, 10 ** 59, -10 ** 59, 60, -21]
NO_CUTS = [*NO_NUMBERS, (0,), (0, 1), (0, 1, "", ""), [0, 1, ""], (0, 1, None), (0, 1, ()), (0, 1, 7), (2, 1, ""),
           (-1, 1, ""), (True, 1, ""), (0, True, ""), (0, 21, ""), (0, -1, ""), (0, None, ""), ("0", 1, ""),
           (0, 1, "ba"), (0, 1, "aa"), (0, 1, "e"), (0, 1, "A"), (0, 1, "-"), (0, 1, "a b"), ((0, 1, ""),),
           (0, (1,), ""), (0, 1, ["a"])]


def outcome(function, *values, **named):
    """("ok", result), or the name of the error that is raised and its attributes."""
    try:
        return "ok", function(*values, **named)
    except (UnitError, NoCut, NoVersion) as error:
        return type(error).__name__, vars(error)


def is_cut(letters, units, value):
    """Whether a value is a cut for these units of so many letters."""
    if not isinstance(value, tuple) or len(value) != 3:
        return False
    if not is_number(value[0], 0, len(units) - 1) or not is_number(value[1], 0, 20) or not isinstance(value[2], str):
        return False
    return value[2] in ["".join(name for at, name in enumerate("abcd"[:letters]) if number >> at & 1)
                        for number in range(2 ** letters)]


class Model:
    """A bench that works out all from its first cuts and its edits, each time when it is asked."""

    def __init__(self, kind, units, cuts=(), limit=None):
        self.kind, self.units, self.first, self.limit = kind, units, cuts, limit
        self.done, self.undone = [], []

    def cuts(self, many=None):
        """The cuts after so many edits, or now."""
        cuts = self.first
        for edit in self.done[:len(self.done) if many is None else many]:
            for item in edit[1] if edit[0] == "attempt" else [edit]:
                cuts = self.after(cuts, item)[1]
        return cuts

    def after(self, cuts, edit):
        """("ok", cuts) after an edit that is no attempt, or its error."""
        name, *values = edit
        row = list(cuts)
        if name == "add":
            row.append(values[0])
        elif not is_number(values[0], 0, len(cuts) - 1):
            return "NoCut", {"index": values[0]}
        elif name == "drop":
            del row[values[0]]
        elif name == "lift":
            row.insert(max(0, values[0] - 1), row.pop(values[0]))
        else:
            old = row[values[0]]
            row[values[0]] = values[1] if name == "change" else (old[0], values[1], old[2])
        wrong = [at for at, cut in enumerate(row) if not is_cut(self.kind[0], self.units, cut)]
        if wrong:
            return "BadCuts", {"error": (wrong[0], "cut")}
        if len(row) > 3:
            return "BadCuts", {"error": (None, "many")}
        return "ok", tuple(row)

    def kept(self, cuts):
        """None, or the error of a bench that keeps a limit."""
        word = None if self.limit is None else overlong(self.kind, self.units, cuts, self.limit)
        return None if word is None else ("Overlong", {"word": word})

    def edit(self, *edit):
        if len(self.done) == 60:
            return "TooManyEdits", {}
        name, cuts = self.after(self.cuts(), edit)
        error = (name, cuts) if name != "ok" else self.kept(cuts)
        if error is not None:
            return error
        self.done.append(edit)
        self.undone = []
        return "ok", len(self.done)

    def undo(self):
        if not self.done:
            return "NothingToUndo", {}
        self.undone.append(self.done.pop())
        return "ok", len(self.done)

    def redo(self):
        if not self.undone:
            return "NothingToRedo", {}
        self.done.append(self.undone.pop())
        return "ok", len(self.done)

    def attempt(self, edits, many=20):
        """An attempt that a watch ends after so many items."""
        if not isinstance(edits, (list, tuple)) or len(edits) > 20:
            return "BadEdits", {}
        for index, item in enumerate(edits):
            right = isinstance(item, tuple) and item and isinstance(item[0], str)
            if not right or NAMES.get(item[0], -1) != len(item) - 1:
                return "BadEdit", {"index": index}
        if not edits:
            return "ok", 0
        if len(self.done) == 60:
            return "TooManyEdits", {}
        cuts = self.cuts()
        for index, item in enumerate(edits[:many]):
            name, cuts = self.after(cuts, item)
            if name != "ok":
                return "Rejected", {"index": index}
        error = self.kept(cuts)
        if error is not None:
            return error
        self.done.append(("attempt", tuple(edits[:many])))
        self.undone = []
        return "ok", len(edits[:many])

    def left(self, word):
        return plain_left(self.units, self.cuts(), word)


def random_edit(source, model, top=20):
    """An edit at random, most often a right one."""
    def index():
        right = source.randrange(max(1, len(model.cuts())))
        return right if source.random() < 0.9 else source.choice(NO_NUMBERS + [len(model.cuts())])

    def number():
        return source.randint(0, top) if source.random() < 0.9 else source.choice(NO_NUMBERS + [21])

    def cut():
        if source.random() < 0.1:
            return source.choice(NO_CUTS)
        clings = "".join(name for name in "abcd"[:model.kind[0]] if source.random() < 0.3)
        return source.randrange(len(model.units)), number(), clings

    name = source.choice(["add", "add", "drop", "change", "lift", "allow"])
    values = {"add": [cut], "drop": [index], "change": [index, cut], "lift": [index], "allow": [index, number]}[name]
    return (name, *[value() for value in values])
