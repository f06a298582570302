"""[3]: the answers come for layouts of seven columns and six heads, too, without a long wait."""

import time
import unittest

from jointrees.bars import bar_for, is_bar
from jointrees.loops import counts_of, is_loop, loop_of
from jointrees.nests import are_nests, first_nests, is_wreath, wreath_of
from jointrees.orders import column_order_for, is_column_order, is_running, running_for
from tests import samples

ASKS = [bar_for, first_nests, wreath_of, loop_of, counts_of, running_for, column_order_for]
LOOKERS = [is_bar, are_nests, is_wreath, is_loop, is_running, is_column_order]
# Some hundredths of a second are due; so much more is let that a slow machine fails nothing.
LONG = 3

WIDE = [
    samples.ALIKE, samples.APART,
    (7, tuple(tuple(c for c in range(7) if c != k) for k in range(6))),
    (7, ((0, 1), (1, 2), (2, 3), (3, 4), (4, 5), (5, 6))),
    (7, ((0, 1), (1, 2), (2, 3), (3, 4), (4, 5), (0, 5))),
    (7, ((0, 1, 2, 3, 4, 5, 6), (0, 1, 2, 3, 4, 5), (0, 1, 2, 3, 4), (0, 1, 2, 3), (0, 1, 2), (0, 1))),
    (7, ((0,), (1,), (2,), (3,), (4,), (0, 1, 2, 3, 4, 5, 6))),
    (7, ((0, 1, 2), (2, 3, 4), (4, 5, 0), (1, 3, 5), (1, 4, 6), (0, 3, 6))),
]


class Wait(unittest.TestCase):
    def no_long_wait(self, ask, *things):
        start = time.perf_counter()
        ask(*things)
        self.assertLess(time.perf_counter() - start, LONG)

    def test_what_is_told(self):
        for layout in WIDE + samples.wide_layouts(60):
            for ask in ASKS:
                with self.subTest((ask.__name__, layout)):
                    self.no_long_wait(ask, layout)

    def test_what_is_looked_at(self):
        long = tuple(range(12000))
        things = [long, long[::-1], (0,) * 24000, ("ring", long), ("lot", long), ("ring", (0, 1, 2, 3) * 6000),
                  (long, long), ((0, 1, 2) * 4000, (0, 1, 2) * 4000), ((0,) * 12000, (0,) * 12000)]
        for layout in WIDE:
            for look in LOOKERS:
                for thing in things:
                    self.no_long_wait(look, layout, thing)
                    self.assertIs(look(layout, thing), False)
