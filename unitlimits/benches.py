"""Benches: kinds and units with cuts that are edited, and edits that are undone and done again."""

from unitlimits.bounds import BATCH, MAX_CUT, MAX_EDITS, MAX_LENGTH
from unitlimits.cuts import cuts_error, left, overlong, unlike_cuts
from unitlimits.edits import edited, is_edit, is_index
from unitlimits.errors import (BadCuts, BadEdit, BadEdits, BadLimit, BadScheme, BadWord, Busy, NoCut, NothingToRedo,
                               NothingToUndo, NoVersion, Overlong, Rejected, TooManyEdits)
from unitlimits.texts import scheme_error
from unitlimits.words import are_letters, is_number


class Bench:
    """A kind and units, which stay, and cuts, which are edited."""

    # The same number as MAX_EDITS.
    MOST_EDITS = 60

    def __init__(self, kind, units, cuts=()):
        error = scheme_error((kind, units, cuts))
        if error is not None:
            raise BadScheme(error)
        self.kind = kind
        self.units = units
        self.cuts = cuts
        # A bench that keeps no limit has None, so that benches are compared by it.
        self._kept = None
        # The edits that stand, and the cuts ahead of each of them.
        self._standing = ()
        self._ahead = ()
        # The edits that undo has removed, each with the cuts behind it, the last one last.
        self._removed = ()
        self._watched = False

    def add(self, cut):
        """Puts a cut at the end of the cuts."""
        return self._edit(("add", cut))

    def drop(self, index):
        """Removes the cut at an index."""
        return self._edit(("drop", index))

    def change(self, index, cut):
        """Puts a cut in the place of the one at an index."""
        return self._edit(("change", index, cut))

    def lift(self, index):
        """Exchanges the cut at an index with the one ahead of it."""
        return self._edit(("lift", index))

    def allow(self, index, most):
        """Gives the cut at an index another number."""
        return self._edit(("allow", index, most))

    def _edit(self, edit):
        """Does an edit, and returns the new version."""
        if self._watched:
            raise Busy()
        if len(self._standing) >= MAX_EDITS:
            raise TooManyEdits()
        cuts = edited(self.kind[0], self.units, self.cuts, edit)
        self._check(cuts)
        self._standing, self._ahead = self._standing + (edit,), self._ahead + (self.cuts,)
        self.cuts = cuts
        self._removed = ()
        return len(self._standing)

    def _check(self, cuts):
        """Raises an error if the bench must not have these cuts."""

    def __getitem__(self, at):
        if not is_index(at, self.cuts):
            raise NoCut(at)
        return self.cuts[at]

    def __setitem__(self, at, worth):
        self.change(at, worth)

    def __iter__(self):
        raise TypeError("a bench is not iterated over: take its cuts")

    def __iadd__(self, other):
        self.add(other)
        return self

    def __isub__(self, other):
        self.drop(other)
        return self

    def undo(self):
        """Removes the last edit that stands, and returns the new version."""
        if self._watched:
            raise Busy()
        if self._standing == ():
            raise NothingToUndo()
        self._removed = self._removed + ((self._standing[-1], self.cuts),)
        self.cuts = self._ahead[-1]
        self._standing, self._ahead = self._standing[:-1], self._ahead[:-1]
        return len(self._standing)

    def redo(self):
        """Puts the edit in its place again that was removed last, and returns the new version."""
        if self._watched:
            raise Busy()
        if self._removed == ():
            raise NothingToRedo()
        edit, cuts = self._removed[-1]
        self._standing, self._ahead = self._standing + (edit,), self._ahead + (self.cuts,)
        self.cuts = cuts
        self._removed = self._removed[:-1]
        return len(self._standing)

    def attempt(self, edits, *, watch=None):
        """Does edits as one, as long as the watch does not end it, and returns how many were done."""
        if self._watched:
            raise Busy()
        if not isinstance(edits, (list, tuple)) or len(edits) > BATCH:
            raise BadEdits()
        items = tuple(edits)
        for index, item in enumerate(items):
            if not is_edit(item):
                raise BadEdit(index)
        if items == ():
            return 0
        if len(self._standing) >= MAX_EDITS:
            raise TooManyEdits()
        return self._attempt(items, watch)

    def _attempt(self, items, watch):
        """What attempt does, with items that are edits; the bench is as it was if an error is raised."""
        cuts, standing, ahead = self.cuts, self._standing, self._ahead
        done = None
        try:
            self._ahead = ahead + (cuts,)
            for index, item in enumerate(items):
                self._item(index, item)
                self._standing = standing + (("attempt", items[:index + 1]),)
                if watch is not None and self._is_ended(watch):
                    break
            self._check(self.cuts)
            done = len(self._standing[-1][1])
        finally:
            if done is None:
                self.cuts, self._standing, self._ahead = cuts, standing, ahead
        self._removed = ()
        return done

    def _item(self, index, item):
        """Does an item of an attempt; raises Rejected with its index."""
        try:
            self.cuts = edited(self.kind[0], self.units, self.cuts, item)
        except (NoCut, BadCuts):
            raise Rejected(index) from None

    def _is_ended(self, watch):
        """Whether a watch ends an attempt."""
        self._watched = True
        try:
            return bool(watch(self))
        finally:
            self._watched = False

    def left(self, word):
        """What the cuts leave of a word."""
        if not are_letters(word, self.kind[0]) or len(word) > MAX_LENGTH:
            raise BadWord(word)
        return left(self.units, self.cuts, word)

    def overlong(self, limit):
        """The first word of the kind of which the cuts leave a word that does not keep a limit, or None."""
        if not _is_limit(self.units, limit):
            raise BadLimit(limit)
        return overlong(self.kind, self.units, self.cuts, limit)

    def differs(self, cuts):
        """The first word of the kind of which the cuts of the bench and other ones leave unlike words, or None."""
        error = cuts_error(self.kind[0], self.units, cuts)
        if error is not None:
            raise BadCuts(error)
        return unlike_cuts(self.kind, self.units, self.cuts, cuts)

    def state(self, *, version=None):
        """The cuts, or what they were after so many of the edits that stand."""
        if version is None:
            return self.cuts
        if not is_number(version, 0, len(self._standing)):
            raise NoVersion(version)
        return (self._ahead + (self.cuts,))[version]

    def edits(self):
        """The edits that stand."""
        return self._standing

    def __len__(self):
        return len(self._standing)

    def __str__(self):
        return ", ".join([f"{len(self.kind[1])} states", f"{len(self.units)} units", f"{len(self.cuts)} cuts",
                          f"{len(self._standing)} edits"])

    def __eq__(self, other):
        return (isinstance(other, Bench) and self.kind == other.kind and self.units == other.units
                and self.cuts == other.cuts and self._kept == other._kept)


class KeepBench(Bench):
    """A bench whose cuts always leave words that keep a limit."""

    def __init__(self, kind, units, limit, cuts=()):
        super().__init__(kind, units, cuts)
        if not _is_limit(units, limit):
            raise BadLimit(limit)
        self.limit = limit
        self._kept = limit
        self._check(cuts)

    def _check(self, cuts):
        """Raises Overlong if these cuts leave a word that does not keep the limit."""
        word = overlong(self.kind, self.units, cuts, self.limit)
        if word is not None:
            raise Overlong(word)


def _is_limit(units, value):
    """Whether a value is a limit for these units."""
    if not isinstance(value, tuple) or len(value) != 2:
        return False
    return is_number(value[0], 0, len(units) - 1) and is_number(value[1], 0, MAX_CUT)
