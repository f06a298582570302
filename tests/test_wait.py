"""[3]: the answers come for layouts of seven columns and six heads and tables of 625 rows, too, without a long wait."""

import itertools
import random
import time
import unittest

from jointrees.bars import bar_for, is_bar
from jointrees.counts import joined_at, joined_columns, many_joined, many_saying, number_of
from jointrees.cuts import cut_by, deeds_for, joined_parts
from jointrees.dear import are_prices, cheapest, price_of
from jointrees.desk import Desk
from jointrees.errors import JoinError
from jointrees.loops import counts_of, is_loop, loop_of
from jointrees.nests import are_nests, first_nests, is_wreath, wreath_of
from jointrees.orders import column_order_for, is_column_order, is_running, running_for
from jointrees.papers import paper_shows, price_paper
from jointrees.parting import are_parting, parting_of
from jointrees.tables import agree, are_tables, columns_of, joined
from jointrees.texts import layout_read, layout_text, table_read, table_text
from tests import samples

ASKS = [bar_for, first_nests, wreath_of, loop_of, counts_of, running_for, column_order_for, parting_of, deeds_for]
LOOKERS = [is_bar, are_nests, is_wreath, is_loop, is_running, is_column_order, are_tables, are_parting]
# Some hundredths of a second are due; so much more is let that a slow machine fails nothing.
LONG = 3

WIDE = [
    samples.ALIKE, samples.APART,
    (7, tuple(tuple(c for c in range(7) if c != k) for k in range(6))),
    (7, ((0, 1), (1, 2), (2, 3), (3, 4), (4, 5), (5, 6))),
    (7, ((0, 1), (1, 2), (2, 3), (3, 4), (4, 5), (0, 5))),
    (7, ((0, 1, 2, 3, 4, 5, 6), (0, 1, 2, 3, 4, 5), (0, 1, 2, 3, 4), (0, 1, 2, 3), (0, 1, 2), (0, 1))),
    (7, ((0,), (1,), (2,), (3,), (4,), (0, 1, 2, 3, 4, 5, 6))),
    (7, ((0, 1, 2), (2, 3, 4), (4, 5, 0), (1, 3, 5), (1, 4, 6), (0, 3, 6))),
]
TABLED = WIDE + samples.wide_layouts(12) + [
    # A star whose middle is the last column: what is tried by the first ones is found wrong late.
    (7, tuple((k, 6) for k in range(6))),
    # Six lines of seven points, three in each: no two heads have more than one column in common.
    (7, ((0, 1, 2), (0, 3, 4), (0, 5, 6), (1, 3, 5), (1, 4, 6), (2, 3, 6))),
    (7, ((0, 3), (1, 4), (2, 5), (3, 4, 5, 6), (3, 4, 5, 6), (3, 4, 5, 6))),
    (7, ((0, 3, 4, 5), (1, 3, 4, 5), (2, 3, 4, 5), (3, 4, 5, 6), (3, 4, 5, 6), (3, 4, 5, 6))),
]


def rows_by(head, picked):
    """The first 625 rows of a head that are picked."""
    return tuple(itertools.islice(filter(picked, itertools.product(range(10), repeat=len(head))), 625))


def large_tables(layout):
    """Tables of as many rows as may be, of several sorts: all rows, sums that part them, one number, drawn ones."""
    draw = random.Random(50)
    heads = list(enumerate(layout[1]))
    drawn = [{tuple(draw.randrange(10) for _ in head) for _ in range(625)} for number, head in heads]
    return [
        tuple(rows_by(head, lambda row: True) for number, head in heads),
        tuple(rows_by(head, lambda row: sum(row) % 2 == (number == 0)) for number, head in heads),
        tuple(rows_by(head, lambda row: sum(row) % 10 == number) for number, head in heads),
        tuple(tuple((k,) * len(head) for k in range(10)) for number, head in heads),
        tuple(tuple(sorted(rows)) for rows in drawn),
    ]


class Wait(unittest.TestCase):
    def no_long_wait(self, ask, *things):
        start = time.perf_counter()
        try:
            ask(*things)
        except JoinError:
            pass
        self.assertLess(time.perf_counter() - start, LONG)

    def test_what_is_told(self):
        for layout in WIDE + samples.wide_layouts(60):
            for ask in ASKS:
                with self.subTest((ask.__name__, layout)):
                    self.no_long_wait(ask, layout)

    def test_what_is_looked_at(self):
        long = tuple(range(12000))
        things = [long, long[::-1], (0,) * 24000, ("ring", long), ("lot", long), ("ring", (0, 1, 2, 3) * 6000),
                  (long, long), ((0, 1, 2) * 4000, (0, 1, 2) * 4000), ((0,) * 12000, (0,) * 12000)]
        for layout in WIDE:
            for look in LOOKERS:
                for thing in things:
                    self.no_long_wait(look, layout, thing)
                    self.assertIs(look(layout, thing), False)

    def test_large_tables(self):
        for layout in TABLED:
            columns = samples.in_heads(layout)
            deeds = list(itertools.permutations(range(len(layout[1])), 2)) * 250
            for tables in large_tables(layout):
                self.assertIs(are_tables(layout, tables), True)
                for ask in (are_tables, are_parting, agree, joined, joined_parts, many_joined):
                    with self.subTest((ask.__name__, layout)):
                        self.no_long_wait(ask, layout, tables)
                for ask, *things in ((columns_of, 0, layout[1][0]), (cut_by, deeds), (joined_at, 0),
                                     (number_of, (0,) * len(columns)), (many_saying, ((columns[0], 0),)),
                                     (joined_columns, tuple(columns)), (joined_columns, tuple(columns[:3])),
                                     (joined_columns, tuple(columns[-3:]))):
                    with self.subTest((ask.__name__, layout)):
                        self.no_long_wait(ask, layout, tables, *things)

    def test_large_tables_and_prices(self):
        for layout in TABLED:
            tree = tuple((0, k) for k in range(1, len(layout[1])))
            for tables in large_tables(layout):
                prices = tuple(tuple(7 * k % 1000 for k in range(len(table))) for table in tables)
                self.assertIs(are_prices(layout, tables, prices), True)
                papers = [(tree, ((),) * len(tree)), (tree, (tuple(((k,), k) for k in range(10)),) * len(tree))]
                for ask, *things in ((are_prices,), (cheapest,), (price_paper,), (price_of, (0,) * 7),
                                     (paper_shows, papers[0]), (paper_shows, papers[1])):
                    with self.subTest((ask.__name__, layout)):
                        self.no_long_wait(ask, layout, tables, prices, *things)

    def test_texts_and_desks(self):
        for layout in TABLED:
            self.no_long_wait(layout_read, layout_text(layout))
            for table in large_tables(layout)[0]:
                self.no_long_wait(table_read, table_text(table))
        desk = Desk()
        desk.say("layout 7 : 0,1,2 2,3,4 4,5,6 0,1,2 2,3,4 4,5,6")
        for head in range(6):
            for row in samples.all_rows((0, 1, 2), 10):
                self.no_long_wait(desk.say, f"put {head} {''.join(map(str, row))}")
        for row in ("table 5", "tree", "nests", "agree", "joined", "many", "at 0", "at 999999", "undo", "show"):
            self.no_long_wait(desk.say, row)
        for text in ("0" * 2600, "0 " * 1300, "a" * 2600, "put 0 " + "0" * 2590, "at " + "9" * 2597, " " * 2600):
            for ask in (layout_read, table_read, desk.say):
                self.no_long_wait(ask, text)
