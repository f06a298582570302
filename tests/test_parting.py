"""Stage 7: [74], and of [7] that of a layout that has a bar there are parting tables."""

import itertools
import unittest

from jointrees.bars import bar_for
from jointrees.parting import are_parting, parting_of
from jointrees.tables import are_tables
from jointrees.trees import first_join_tree
from tests import samples
from tests.samples import (ALIKE, APART, COVERED, LINE, LOT_4, LOT_7, ODD, ONE, PATH, RING, RING_5, RING_6, STAR, TAILED,
                           TRIANGLE, TWINS)

SAME = ((0, 0), (1, 1))
TURNED = ((0, 1), (1, 0))
TRIANGLE_PARTED = (SAME, SAME, TURNED)
# Each five of six columns are in a head: only tables of 625 rows part these by sums.
LOT_6 = (7, tuple(tuple(c for c in range(6) if c != k) for k in range(6)))
LOT_6_WIDE = (7, tuple(tuple(c for c in range(7) if c != k) for k in range(6)))
LOT_5 = (7, tuple(tuple(c for c in range(6) if c != k) for k in range(5)) + ((2, 5, 6),))


class AreParting(unittest.TestCase):
    def check(self, layout, due, things):
        for thing in things:
            with self.subTest(str(thing)[:80]):
                self.assertIs(are_parting(layout, thing), due)

    def test_parting_tables(self):
        self.check(TRIANGLE, True, [TRIANGLE_PARTED, (TURNED,) * 3, (SAME, TURNED, SAME),
                                    (((3, 3), (7, 7)), ((3, 8), (7, 9)), ((3, 9), (7, 8)))])
        self.check(RING, True, [(SAME, SAME, SAME, TURNED), (TURNED, TURNED, SAME, TURNED)])
        self.check(RING_6, True, [(SAME,) * 5 + (TURNED,)])
        self.check((4, TRIANGLE[1] + ((3,),)), True, [TRIANGLE_PARTED + (((5,),),)])

    def test_one_emptied(self):
        for layout, tables in ((TRIANGLE, TRIANGLE_PARTED), (RING, (SAME, SAME, SAME, TURNED))):
            self.check(layout, True, [tables])
            self.check(layout, False, [tables[:k] + ((),) + tables[k + 1:] for k in range(len(tables))])
            self.check(layout, False, [((),) * len(tables)])
        self.check(ONE, False, [((),)])
        self.check((2, ((0,), (1,))), False, [((), ()), (((0,),), ())])

    def test_one_that_does_not_agree(self):
        self.check(TRIANGLE, False, [(SAME, SAME, TURNED[:1]), (SAME[:1], SAME, TURNED), (SAME, SAME, TURNED + ((2, 0),)),
                                     (SAME, ((0, 0), (1, 1), (2, 2)), TURNED), (SAME, SAME, ((2, 2),)),
                                     (((0, 0), (1, 1), (5, 5)), SAME, TURNED)])
        self.check(LINE, False, [(((0, 0),), ((1, 1),))])

    def test_with_a_joined_row(self):
        self.check(TRIANGLE, False, [(SAME, SAME, SAME), (SAME, TURNED, TURNED),
                                     (((0, 0), (1, 1), (2, 2)), ((0, 0), (1, 1), (2, 2)), ((0, 1), (1, 0), (2, 2)))])
        self.check(RING, False, [(SAME,) * 4, (TURNED,) * 4])
        for layout in samples.LAYOUTS:
            self.check(layout, False, [tuple(((0,) * len(head),) for head in layout[1])])

    def test_where_there_is_a_join_tree(self):
        for layout, tables in samples.tables_near([ONE, LINE, PATH, COVERED, STAR, APART, TWINS], 12):
            self.check(layout, False, [tables, samples.plain_parts(layout, tables)])

    def test_what_is_no_tables(self):
        for layout, tables in ((TRIANGLE, TRIANGLE_PARTED), (RING, (SAME, SAME, SAME, TURNED)), (LINE, (SAME, SAME))):
            self.check(layout, False, samples.spoiled_tables(layout, tables))
        self.check(TRIANGLE, False, [(((False, 0), (1, 1)), SAME, TURNED), (((0, 0), (True, True)), SAME, TURNED),
                                     (SAME, SAME, ((0, 1), (1, False))), (list(SAME), SAME, TURNED),
                                     (SAME, SAME, ([0, 1], [1, 0])), (SAME, SAME, ((1, 0), (0, 1))),
                                     (((10, 10), (11, 11)), ((10, 10), (11, 11)), ((10, 11), (11, 10)))])

    def test_things_of_other_kinds(self):
        for layout in (ONE, TRIANGLE):
            self.check(layout, False, ODD)
            self.check(layout, False, [(thing,) * len(layout[1]) for thing in ODD])
            self.check(layout, False, [((thing,),) * len(layout[1]) for thing in ODD])
        for thing in samples.spoiled(TRIANGLE_PARTED):
            self.check(TRIANGLE, False, [thing])

    def test_by_their_definition(self):
        pairs = list(itertools.product(range(2), repeat=2))
        tables = [some for size in range(5) for some in itertools.combinations(pairs, size)]
        seen = set()
        for some in itertools.product(tables, repeat=3):
            due = () not in some and samples.plain_agree(TRIANGLE, some) and not samples.plain_joined(TRIANGLE, some)
            self.assertIs(are_parting(TRIANGLE, some), due, some)
            seen.add(due)
        self.assertEqual(seen, {True, False})

    def test_drawn_tables(self):
        for layout, tables in samples.tables_near(samples.drawn_layouts(150), 2):
            due = () not in tables and samples.plain_agree(layout, tables) and not samples.plain_joined(layout, tables)
            self.assertIs(are_parting(layout, tables), due, (layout, tables))


class PartingOf(unittest.TestCase):
    def check(self, layout):
        told = parting_of(layout)
        self.assertEqual(told is None, first_join_tree(layout) is not None, layout)
        self.assertEqual(told is None, bar_for(layout) is None, layout)
        if told is not None:
            self.assertIs(are_tables(layout, told), True, layout)
            self.assertIs(are_parting(layout, told), True, layout)
            self.assertNotIn((), told)
            self.assertTrue(samples.plain_agree(layout, told), layout)
        return told

    def test_none_where_there_is_a_join_tree(self):
        for layout in (ONE, LINE, PATH, COVERED, STAR, ALIKE, APART, TWINS, (7, ((6,),))):
            self.assertIsNone(parting_of(layout))

    def test_rings_and_lots(self):
        for layout in (TRIANGLE, RING, RING_5, RING_6, LOT_4, LOT_5, LOT_6, LOT_6_WIDE, LOT_7, TAILED):
            told = self.check(layout)
            if max(len(table) for table in told) < 100:
                self.assertEqual(samples.plain_joined(layout, told), [])

    def test_six_columns_of_which_each_five_are_in_a_head(self):
        for layout in (LOT_6, LOT_6_WIDE):
            self.assertLessEqual(max(len(table) for table in parting_of(layout)), 625)

    def test_a_lot_within_a_greater_one(self):
        self.check((4, tuple(itertools.combinations(range(4), 2))))
        self.check((5, ((0, 1, 2), (0, 1, 3), (0, 2, 3), (1, 2, 3), (0, 4), (1, 4, 2))))
        self.check((5, ((0, 1, 2, 3), (0, 4), (1, 4), (2, 4), (3, 4))))

    def test_heads_that_have_little_of_the_bar_or_nothing(self):
        self.check((7, TRIANGLE[1] + ((3, 4), (2, 5), (6,))))
        self.check((7, ((0, 1, 5), (1, 2, 6), (0, 2), (0,), (0, 1), (3, 4, 5))))
        self.check((7, ((3, 6), (2, 3, 5), (1, 2, 4), (1, 6), (0, 3), (2, 3))))
        self.check((5, LOT_4[1] + ((0, 1), (4,))))

    def test_all_small_layouts_and_drawn_ones(self):
        for layout in samples.small_layouts():
            told = self.check(layout)
            if told is not None:
                self.assertEqual(samples.plain_joined(layout, told), [])

    def test_seven_columns_and_six_heads(self):
        parted = [layout for layout in samples.wide_layouts(300) if self.check(layout) is not None]
        self.assertGreater(len(parted), 100)
