"""The examples of the document, as they stand in it, one block behind another in examples.txt."""

import os
import unittest

from samples import sorts
from unitlimits import errors

EXAMPLES = os.path.join(os.path.dirname(os.path.abspath(__file__)), "examples.txt")


def blocks():
    """Lists of the lines of each example."""
    with open(EXAMPLES, encoding="utf-8") as held:
        return [block.splitlines() for block in held.read().split("\n\n")]


class ExamplesTest(unittest.TestCase):
    def check_result(self, code, told, names):
        if told.startswith("raises "):
            error = eval(told.removeprefix("raises "), vars(errors))
            with self.assertRaises(type(error)) as caught:
                eval(code, names)
            self.assertIs(type(caught.exception), type(error))
            self.assertEqual(vars(caught.exception), vars(error))
        else:
            result, expected = eval(code, names), eval(told)
            self.assertEqual((result, sorts(result)), (expected, sorts(expected)), code)

    def test_all(self):
        results = 0
        for lines in blocks():
            names = {}
            self.assertTrue(lines[0].startswith(">>> "))
            for at, line in enumerate(lines):
                code = line.removeprefix(">>> ")
                if not line.startswith(">>> "):
                    continue
                if at + 1 < len(lines) and not lines[at + 1].startswith(">>> "):
                    self.check_result(code, lines[at + 1], names)
                    results += 1
                else:
                    exec(code, names)
        self.assertEqual((len(blocks()), results), (20, 24))


if __name__ == "__main__":
    unittest.main()
