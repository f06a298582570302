"""Stage 4: [41], of [2] that truths are no columns, and of [7] that there is a join tree or a bar, never both."""

import itertools
import unittest

from jointrees.bars import bar_for, is_bar
from jointrees.trees import first_join_tree
from tests import samples
from tests.samples import (ALIKE, APART, BIG, COVERED, LINE, LOT_4, LOT_7, ODD, ONE, PATH, RING, RING_5, RING_6, TAILED,
                           TRIANGLE, TWINS)

# A ring of four columns, and a head beside it that makes 1 and 3 mates of 4, and of one another.
CROSSED = (5, ((0, 1), (1, 2), (2, 3), (0, 3), (1, 3, 4)))


class IsBar(unittest.TestCase):
    def check(self, layout, due, things):
        for thing in things:
            with self.subTest(str(thing)[:80]):
                self.assertIs(is_bar(layout, thing), due)

    def test_rings(self):
        self.check(RING, True, [("ring", (0, 1, 2, 3))])
        self.check(RING_5, True, [("ring", (0, 1, 2, 3, 4))])
        self.check(RING_6, True, [("ring", (0, 1, 2, 3, 4, 5))])
        self.check((7, ((3, 6), (2, 3, 5), (1, 2, 4), (1, 6))), True, [("ring", (1, 2, 3, 6))])
        self.check((7, ((0, 4), (1, 4), (1, 6), (3, 6), (2, 3), (0, 2))), True, [("ring", (0, 2, 3, 6, 1, 4))])

    def test_seven_columns_need_more_heads_for_a_ring_than_there_are(self):
        for last in ((5, 6), (0, 6), (0, 5, 6)):
            layout = (7, ((0, 1), (1, 2), (2, 3), (3, 4), (4, 5), last))
            self.check(layout, False, [("ring", (0, 1, 2, 3, 4, 5, 6)), ("ring", (0, 6, 5, 4, 3, 2, 1))])

    def test_a_ring_told_in_another_way(self):
        for layout in (RING, RING_5, RING_6):
            ring = tuple(range(layout[0]))
            turns = [ring[k:] + ring[:k] for k in range(1, len(ring))]
            self.check(layout, False, [("ring", turn) for turn in turns])
            self.check(layout, False, [("ring", turn[::-1]) for turn in turns + [ring]])

    def test_a_ring_of_three(self):
        self.check(TRIANGLE, False, [("ring", (0, 1, 2)), ("ring", (0, 2, 1))])
        self.check(COVERED, False, [("ring", (0, 1, 2))])

    def test_mates_that_do_not_follow_one_another(self):
        self.check(CROSSED, False, [("ring", (0, 1, 2, 3)), ("ring", (0, 1, 4, 3))])
        self.check((4, RING[1] + ((0, 2),)), False, [("ring", (0, 1, 2, 3))])
        self.check((4, ((0, 1, 2, 3),)), False, [("ring", (0, 1, 2, 3))])
        self.check((6, RING_6[1][:5] + ((0, 3, 5),)), False, [("ring", (0, 1, 2, 3, 4, 5))])

    def test_those_that_follow_one_another_but_are_no_mates(self):
        self.check(PATH, False, [("ring", (0, 1, 2, 3))])
        self.check(RING, False, [("ring", (0, 2, 1, 3)), ("ring", (0, 1, 3, 2))])
        self.check(RING_6, False, [("ring", (0, 1, 2, 3, 4)), ("ring", (0, 1, 2, 5))])

    def test_a_ring_with_a_column_twice_or_beyond(self):
        self.check(RING, False, [("ring", columns) for columns in (
            (0, 1, 2, 3, 0), (0, 1, 0, 3), (0, 1, 2, 1), (0, 1, 2, 3, 3), (0, 0, 1, 2, 3), (0, 1, 2, 3, 0, 1, 2, 3),
            (0, 1, 2, 4), (0, 1, 2, 3, 4), (-1, 0, 1, 2), (0, 1, 2, -1), (0, 1, 2, BIG), (0, 1, 2, 3) * 6000, (0,), ())])

    def test_lots(self):
        self.check(TRIANGLE, True, [("lot", (0, 1, 2))])
        self.check(TAILED, True, [("lot", (0, 1, 2))])
        self.check(LOT_4, True, [("lot", (0, 1, 2, 3))])
        self.check(LOT_7, True, [("lot", (0, 1, 2, 3, 4, 5, 6)), ("lot", (0, 5, 6)), ("lot", (1, 3, 4, 5, 6))])
        self.check((4, tuple(itertools.combinations(range(4), 2))), True, [("lot", (0, 1, 2, 3)), ("lot", (0, 2, 3))])

    def test_a_lot_that_a_head_has_all_of(self):
        self.check(COVERED, False, [("lot", (0, 1, 2))])
        self.check(LOT_4, False, [("lot", lot) for lot in itertools.combinations(range(4), 3)])
        self.check(LOT_7, False, [("lot", (0, 1, 2, 3, 4, 5)), ("lot", (2, 3, 6))])
        self.check(ALIKE, False, [("lot", (0, 1, 2, 3, 4, 5, 6)), ("lot", (0, 1, 2))])

    def test_a_lot_that_does_not_rise(self):
        self.check(TRIANGLE, False, [("lot", lot) for lot in itertools.permutations(range(3)) if lot != (0, 1, 2)])
        self.check(TRIANGLE, False, [("lot", (0, 1, 1, 2)), ("lot", (0, 1, 2, 2)), ("lot", (0, 0, 1, 2))])

    def test_a_lot_of_fewer_than_three(self):
        self.check(TRIANGLE, False, [("lot", lot) for lot in ((), (0,), (0, 1), (1, 2), (0, 2))])
        self.check(LINE, False, [("lot", (0, 2))])
        self.check((3, ((0,),)), False, [("lot", (1,)), ("lot", (1, 2)), ("lot", ())])

    def test_a_lot_with_two_that_are_no_mates(self):
        self.check(LINE, False, [("lot", (0, 1, 2))])
        self.check(RING, False, [("lot", lot) for lot in itertools.combinations(range(4), 3)])
        self.check(TAILED, False, [("lot", (0, 1, 2, 3)), ("lot", (0, 2, 3)), ("lot", (1, 2, 3))])

    def test_a_lot_beyond_the_last_column(self):
        self.check(TRIANGLE, False, [("lot", (0, 1, 3)), ("lot", (0, 1, 2, 3)), ("lot", (-1, 0, 1)),
                                     ("lot", (0, 1, BIG))])

    def test_the_other_word_or_none(self):
        self.check(RING, False, [(word, (0, 1, 2, 3)) for word in
                                 ["lot", "", "Ring", "RING", "rings", " ring", "ring ", "r", "bar", "ring\n"] + ODD])
        self.check(TRIANGLE, False, [(word, (0, 1, 2)) for word in
                                     ["ring", "", "Lot", "LOT", "lots", " lot", "lot ", "l", "bar"] + ODD])

    def test_truths_are_no_columns(self):
        self.check(RING, False, [("ring", (False, 1, 2, 3)), ("ring", (0, True, 2, 3)), ("ring", (False, True, 2, 3))])
        self.check(TRIANGLE, False, [("lot", (False, 1, 2)), ("lot", (0, True, 2)), ("lot", (False, True, 2))])

    def test_tuples_of_another_length_and_lists(self):
        self.check(RING, False, [("ring",), ((0, 1, 2, 3),), ("ring", (0, 1, 2, 3), ()), ("ring", 0, 1, 2, 3), (),
                                 ((0, 1, 2, 3), "ring"), ["ring", (0, 1, 2, 3)], ("ring", [0, 1, 2, 3]), "ring",
                                 {"ring": (0, 1, 2, 3)}, ("ring", "0123"), ("ring", ("0", "1", "2", "3")), "ri"])

    def test_things_of_other_kinds_within_and_without(self):
        for layout in (ONE, RING, TRIANGLE):
            self.check(layout, False, ODD)
            self.check(layout, False, [(word, thing) for word in ("ring", "lot") for thing in ODD])
            self.check(layout, False, [(word, (0, 1, 2, thing)) for word in ("ring", "lot") for thing in ODD])
        self.check(RING, False, samples.spoiled(("ring", (0, 1, 2, 3))))
        self.check(TRIANGLE, False, samples.spoiled(("lot", (0, 1, 2))))

    def test_by_their_definition(self):
        for layout in samples.LAYOUTS + [CROSSED] + samples.drawn_layouts(20):
            bars = samples.plain_bars(layout)
            for size in range(layout[0] + 1):
                for columns in itertools.permutations(range(layout[0]), size):
                    for word in ("ring", "lot"):
                        self.assertIs(is_bar(layout, (word, columns)), (word, columns) in bars, (layout, word, columns))


class BarFor(unittest.TestCase):
    def test_some_bar(self):
        self.assertEqual(bar_for(TRIANGLE), ("lot", (0, 1, 2)))
        self.assertEqual(bar_for(RING), ("ring", (0, 1, 2, 3)))
        self.assertEqual(bar_for(RING_6), ("ring", (0, 1, 2, 3, 4, 5)))
        self.assertEqual(bar_for(LOT_4), ("lot", (0, 1, 2, 3)))
        self.assertEqual(bar_for(TAILED), ("lot", (0, 1, 2)))
        self.assertEqual(bar_for((7, ((3, 6), (2, 3, 5), (1, 2, 4), (1, 6)))), ("ring", (1, 2, 3, 6)))

    def test_none_where_there_is_a_join_tree(self):
        for layout in (ONE, LINE, PATH, COVERED, ALIKE, APART, TWINS, (7, ((6,),))):
            self.assertIsNone(bar_for(layout))

    def test_by_its_definition(self):
        for layout in samples.small_layouts():
            bars = samples.plain_bars(layout) if layout[0] < 7 else None
            told = bar_for(layout)
            self.assertEqual(told is None, first_join_tree(layout) is not None, layout)
            if told is not None:
                self.assertIs(is_bar(layout, told), True)
            if bars is not None:
                self.assertTrue(told in bars if bars else told is None, layout)

    def test_seven_columns_and_six_heads(self):
        for layout in samples.wide_layouts(300):
            told = bar_for(layout)
            self.assertEqual(told is None, first_join_tree(layout) is not None, layout)
            if told is not None:
                self.assertIs(is_bar(layout, told), True)
        for layout in samples.wide_layouts(18):
            bars = samples.plain_bars(layout)
            self.assertTrue(bar_for(layout) in bars if bars else bar_for(layout) is None, layout)
