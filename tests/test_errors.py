import inspect
import unittest

from unitlimits import errors

# The fields of each error, in their order.
FIELDS = {
    "UnitError": (),
    "BadText": ("line",),
    "BadScheme": ("error",),
    "BadCuts": ("error",),
    "BadWord": ("word",),
    "BadLimit": ("limit",),
    "Overlong": ("word",),
    "Busy": (),
    "TooManyEdits": (),
    "NothingToUndo": (),
    "NothingToRedo": (),
    "BadEdits": (),
    "BadEdit": ("index",),
    "Rejected": ("index",),
    "NoCut": ("index",),
    "NoVersion": ("version",),
}
LOOKUPS = ("NoCut", "NoVersion")


class Odd:
    """Neither equal to anything nor true nor false: no error may ask it."""

    def __eq__(self, other):
        raise RuntimeError("asked")

    def __bool__(self):
        raise RuntimeError("asked")


def many_values():
    nested = ("cuts", [(0, "cut"), {"a": [None]}])
    return [None, True, False, 0, 1, -1, 10 ** 59, "", "abc", "two\nlines", (), (1,), [], [[]], {}, {"a": ()},
            nested, list(nested), 1.5, b"ab", {1}, Odd(), object(), ValueError("no"), len, int]


class ErrorsTest(unittest.TestCase):
    def test_each_error_is_there(self):
        for name in FIELDS:
            with self.subTest(name=name):
                made = getattr(errors, name)
                self.assertTrue(inspect.isclass(made))
                self.assertEqual((made.__name__, made.__module__), (name, "unitlimits.errors"))

    def test_without_fields(self):
        for name, fields in FIELDS.items():
            if not fields:
                with self.subTest(name=name):
                    made = getattr(errors, name)()
                    self.assertIs(type(made), getattr(errors, name))
                    self.assertEqual(vars(made), {})
                    self.assertIsInstance(str(made), str)

    def test_fields_are_the_very_objects(self):
        for name, fields in FIELDS.items():
            for value in many_values() if fields else ():
                with self.subTest(name=name, value=repr(value)):
                    by_position = getattr(errors, name)(value)
                    by_name = getattr(errors, name)(**{fields[0]: value})
                    self.assertIs(getattr(by_position, fields[0]), value)
                    self.assertIs(getattr(by_name, fields[0]), value)

    def test_fields_follow_later_changes(self):
        held = [1, {"a": []}]
        made = errors.BadCuts(held)
        held[1]["a"].append(held[0])
        self.assertEqual(made.error, [1, {"a": [1]}])

    def test_fields_are_the_only_attributes(self):
        for name, fields in FIELDS.items():
            with self.subTest(name=name):
                made = getattr(errors, name)(*fields)
                self.assertEqual(tuple(vars(made)), fields)

    def test_missing_fields(self):
        for name, fields in FIELDS.items():
            if fields:
                with self.subTest(name=name), self.assertRaises(TypeError):
                    getattr(errors, name)()

    def test_raised_and_caught(self):
        for name, fields in FIELDS.items():
            made = getattr(errors, name)
            with self.subTest(name=name):
                with self.assertRaises(made) as caught:
                    raise made(*fields)
                self.assertEqual([getattr(caught.exception, field) for field in fields], list(fields))

    def test_objects_are_apart(self):
        first, second = errors.BadText(1), errors.BadText(2)
        self.assertEqual((first.line, second.line), (1, 2))


class DerivationTest(unittest.TestCase):
    def test_bases(self):
        for name in FIELDS:
            made = getattr(errors, name)
            with self.subTest(name=name):
                lookup = name in LOOKUPS
                self.assertTrue(issubclass(made, Exception))
                self.assertIs(issubclass(made, errors.UnitError), not lookup)
                self.assertIs(issubclass(made, ValueError), not lookup)
                self.assertIs(issubclass(made, LookupError), lookup)

    def test_none_derives_from_another_one(self):
        for name in FIELDS:
            for other in FIELDS:
                if name != other and other != "UnitError":
                    with self.subTest(name=name, other=other):
                        self.assertFalse(issubclass(getattr(errors, name), getattr(errors, other)))

    def test_no_kind_of_lookup_beyond_the_one_told(self):
        for name in LOOKUPS:
            with self.subTest(name=name):
                self.assertFalse(issubclass(getattr(errors, name), (IndexError, KeyError)))


if __name__ == "__main__":
    unittest.main()
