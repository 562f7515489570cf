"""How long answers may take that are asked for by the hundred thousand: far longer than they take."""

import time
import unittest

from unitlimits.cuts import overlong, unlike_cuts
from unitlimits.limits import breach, most_kept
from unitlimits.parting import most_parts

EVERY = (2, ((0, 0),), (True,))
FOUR = (4, ((0, 0, 0, 0),), (True,))
RING = (2, ((1, None), (2, None), (3, None), (4, None), (5, None), (6, None), (7, None), (None, 0)), (True,) * 8)
UNITS = ((0, 1), (1, 0))

# Each with a number of milliseconds, some times as many as it takes.
QUESTIONS = [
    (1, overlong, EVERY, ((1, 0), (0, 1)), ((0, 20, ""),), (1, 20)),
    (1, overlong, EVERY, ((1, 1), (1, 0)), ((0, 20, ""),), (1, 20)),
    (2, overlong, RING, UNITS, ((0, 20, ""), (1, 20, "")), (1, 20)),
    (2, overlong, FOUR, ((1, 1, 1, 1), (1, 2, 3, 4)), ((0, 20, ""),), (1, 20)),
    (2, most_kept, RING, ((0, 1), 200), (0, 1)),
    (2, most_kept, RING, ((0, 1), 200), (1, 0)),
    (2, most_kept, FOUR, ((1, 2, 3, 4), 200), (1, 3, 2, 2)),
    (1.5, breach, RING, ((0, 0), 0), ((0, 1), 200)),
    (1.5, breach, RING, ((0, 1), 200), ((0, 1), 200)),
    (2, most_parts, RING, UNITS, (1, 7, ""), (0, 40)),
    (1, unlike_cuts, RING, UNITS, ((0, 20, ""),), ()),
    (3, unlike_cuts, EVERY, ((1, 0), (0, 1)), ((0, 20, ""),), ((1, 20, ""),)),
]


def milliseconds(function, arguments):
    """The time of a call, as the best of some."""
    best = None
    for _ in range(12):
        begin = time.perf_counter()
        function(*arguments)
        taken = (time.perf_counter() - begin) * 1000
        best = taken if best is None else min(best, taken)
    return best


class TimesTest(unittest.TestCase):
    def test_slowest_questions(self):
        for most, function, *arguments in QUESTIONS:
            with self.subTest(function=function.__name__, arguments=arguments):
                self.assertLess(milliseconds(function, arguments), most)


if __name__ == "__main__":
    unittest.main()
