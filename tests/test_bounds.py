import unittest

from unitlimits import bounds

NUMBERS = {
    "MAX_LETTERS": 4,
    "MAX_STATES": 8,
    "MAX_COUNT": 9,
    "MAX_MOST": 200,
    "MAX_CUT": 20,
    "MAX_CUTS": 3,
    "MAX_PARTED": 40,
    "MAX_ROAD": 4,
    "MAX_LENGTH": 400,
    "MAX_EDITS": 60,
    "BATCH": 20,
}


class BoundsTest(unittest.TestCase):
    def test_each_number(self):
        for name, number in NUMBERS.items():
            with self.subTest(name=name):
                self.assertEqual(getattr(bounds, name), number)
                self.assertIs(type(getattr(bounds, name)), int)

    def test_no_other_numbers(self):
        named = [name for name in vars(bounds) if not name.startswith("_")]
        self.assertEqual(sorted(named), sorted(NUMBERS))


if __name__ == "__main__":
    unittest.main()
