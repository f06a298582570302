"""Stage 6: [61], [62], of [2] truths, and of [7] that both orders are there just where a join tree is."""

import itertools
import unittest

from jointrees.orders import column_order_for, is_column_order, is_running, running_for
from jointrees.trees import first_join_tree
from tests import samples
from tests.samples import (ALIKE, APART, BIG, COVERED, GAPPED, LINE, LOT_4, LOT_7, ODD, ONE, PATH, RING, RING_6, STAR,
                           TAILED, TRIANGLE, TWINS, WITHIN)


class IsRunning(unittest.TestCase):
    def check(self, layout, due, things):
        for thing in things:
            with self.subTest(str(thing)[:80]):
                self.assertIs(is_running(layout, thing), due)

    def test_of_one_head(self):
        self.check(ONE, True, [(0,)])
        self.check(ONE, False, [(), (1,), (0, 0), (0, 1), (False,), [0], 0])

    def test_of_heads_alike(self):
        self.check(TWINS, True, [(0, 1), (1, 0)])
        self.check(ALIKE, True, itertools.permutations(range(6)))

    def test_of_heads_without_a_common_column(self):
        self.check(APART, True, itertools.permutations(range(6)))

    def test_what_all_ahead_have_some_one_ahead_has(self):
        self.check(PATH, True, [(0, 1, 2), (1, 0, 2), (1, 2, 0), (2, 1, 0)])
        self.check(PATH, False, [(0, 2, 1), (2, 0, 1)])
        self.check(COVERED, True, [(3, 0, 1, 2), (3, 2, 1, 0), (0, 3, 1, 2)])
        self.check(COVERED, False, [(0, 1, 2, 3), (0, 1, 3, 2), (0, 2, 3, 1)])
        self.check(WITHIN, True, [(0, 1), (1, 0)])

    def test_where_there_is_no_join_tree(self):
        for layout in (TRIANGLE, RING, TAILED, LOT_4, RING_6):
            self.check(layout, False, itertools.permutations(range(len(layout[1]))))

    def test_a_head_left_out_twice_or_beyond(self):
        self.check(PATH, False, [(), (0,), (0, 1), (1, 2), (0, 1, 1), (0, 0, 1), (0, 1, 2, 2), (0, 1, 2, 0), (1, 1, 1),
                                 (0, 1, 3), (0, 1, 2, 3), (0, 1, -1), (-1, 0, 1), (0, 1, BIG), (-BIG, 0, 1), (1, 2, 3),
                                 (0, 1, 2) * 8000])

    def test_lists_truths_and_things_of_other_kinds(self):
        self.check(PATH, False, [[0, 1, 2], (False, 1, 2), (0, True, 2), (False, True, 2), "012", ("0", "1", "2"),
                                 ((0, 1, 2),), ([0], 1, 2), (0, 1, None), {0: 0, 1: 1, 2: 2}])
        self.check(PATH, False, ODD)
        self.check(PATH, False, [(0, 1, thing) for thing in ODD] + [(thing, 1, 0) for thing in ODD])
        self.check(PATH, False, samples.spoiled((0, 1, 2)))

    def test_by_their_definition(self):
        for layout in samples.small_layouts()[::2]:
            for order in itertools.islice(itertools.permutations(range(len(layout[1]))), 0, None, 5):
                self.assertIs(is_running(layout, order), samples.runs(layout, order), (layout, order))


class RunningFor(unittest.TestCase):
    def test_the_first_as_tuples_compare(self):
        self.assertEqual(running_for(ONE), (0,))
        self.assertEqual(running_for(PATH), (0, 1, 2))
        self.assertEqual(running_for(COVERED), (0, 3, 1, 2))
        self.assertEqual(running_for((4, ((0, 1), (2, 3), (1, 2)))), (0, 2, 1))
        self.assertEqual(running_for(ALIKE), (0, 1, 2, 3, 4, 5))
        self.assertEqual(running_for(APART), (0, 1, 2, 3, 4, 5))

    def test_a_beginning_that_goes_on_to_none(self):
        self.assertEqual(running_for((2, ((0,), (1,), (0, 1)))), (0, 2, 1))
        self.assertEqual(running_for((6, ((0,), (1,), (2,), (3,), (4, 5), (0, 1, 2, 3, 4)))), (0, 5, 1, 2, 3, 4))

    def test_none_where_there_is_none(self):
        for layout in (TRIANGLE, RING, TAILED, LOT_4, LOT_7, RING_6):
            self.assertIsNone(running_for(layout))

    def test_held_against_all_orders(self):
        for layout in samples.small_layouts() + samples.wide_layouts(48):
            told = running_for(layout)
            self.assertEqual(told, samples.first_of(samples.running_orders(layout)), layout)
            self.assertEqual(told is None, first_join_tree(layout) is None, layout)
            if told is not None:
                self.assertIs(is_running(layout, told), True)

    def test_seven_columns_and_six_heads(self):
        for layout in samples.wide_layouts(300):
            self.assertEqual(running_for(layout) is None, first_join_tree(layout) is None, layout)


class IsColumnOrder(unittest.TestCase):
    def check(self, layout, due, things):
        for thing in things:
            with self.subTest(str(thing)[:80]):
                self.assertIs(is_column_order(layout, thing), due)

    def test_column_orders(self):
        self.check(ONE, True, [(0,)])
        self.check(LINE, True, [(0, 1, 2), (0, 2, 1), (2, 0, 1), (2, 1, 0)])
        self.check(LINE, False, [(1, 0, 2), (1, 2, 0)])
        self.check(COVERED, True, itertools.permutations(range(3)))
        self.check(TWINS, True, [(0, 1), (1, 0)])
        self.check(APART, True, [(0, 1, 2, 3, 4, 5, 6), (6, 3, 5, 0, 1, 2, 4)])

    def test_where_there_is_no_join_tree(self):
        for layout in (TRIANGLE, RING, TAILED, LOT_4, RING_6):
            self.check(layout, False, itertools.permutations(range(layout[0])))

    def test_mates_that_stand_ahead_are_not_asked_for(self):
        self.check(PATH, True, [(0, 1, 2, 3), (3, 2, 1, 0), (0, 3, 1, 2), (0, 3, 2, 1)])
        self.check(PATH, False, [(1, 0, 2, 3), (0, 2, 1, 3), (2, 3, 1, 0)])
        self.check(STAR, True, [(1, 2, 0, 3), (3, 1, 0, 2), (1, 2, 3, 0)])
        self.check(STAR, False, [(0, 1, 2, 3), (1, 0, 2, 3)])

    def test_a_column_in_no_head_stands_in_the_order_too(self):
        self.check(GAPPED, True, [(0, 1, 2, 3, 4), (1, 3, 0, 2, 4), (0, 2, 4, 1, 3), (0, 2, 4, 3, 1), (3, 4, 1, 2, 0)])
        self.check(GAPPED, False, [(0, 2, 4), (0, 1, 2, 4), (0, 2, 4, 3), (2, 1, 0, 3, 4), (1, 3, 2, 0, 4)])
        self.check((3, ((1,),)), True, itertools.permutations(range(3)))
        self.check((3, ((1,),)), False, [(1,), (1, 0), (1, 2)])

    def test_a_column_left_out_twice_or_beyond(self):
        self.check(LINE, False, [(), (0,), (0, 2), (0, 1), (0, 2, 2), (0, 0, 1), (0, 1, 2, 2), (0, 1, 2, 0), (0, 0, 0),
                                 (0, 1, 3), (0, 1, 2, 3), (0, 2, -1), (-1, 0, 1), (0, 1, BIG), (-BIG, 0, 1), (1, 2, 3),
                                 (0, 1, 2) * 8000])

    def test_lists_truths_and_things_of_other_kinds(self):
        self.check(LINE, False, [[0, 1, 2], (False, 1, 2), (0, True, 2), (False, True, 2), "012", ("0", "1", "2"),
                                 ((0, 1, 2),), ([0], 1, 2), (0, 1, None), {0: 0, 1: 1, 2: 2}])
        self.check(ONE, False, [(False,), [0], 0, "0", (0, 0), ()])
        self.check(LINE, False, ODD)
        self.check(LINE, False, [(0, 1, thing) for thing in ODD] + [(thing, 1, 0) for thing in ODD])
        self.check(LINE, False, samples.spoiled((0, 1, 2)))

    def test_by_their_definition(self):
        for layout in samples.small_layouts()[::2]:
            for order in itertools.islice(itertools.permutations(range(layout[0])), 0, None, 5):
                self.assertIs(is_column_order(layout, order), samples.orders_columns(layout, order), (layout, order))


class ColumnOrderFor(unittest.TestCase):
    def test_the_first_as_tuples_compare(self):
        self.assertEqual(column_order_for(ONE), (0,))
        self.assertEqual(column_order_for(LINE), (0, 1, 2))
        self.assertEqual(column_order_for(STAR), (1, 2, 0, 3))
        self.assertEqual(column_order_for(COVERED), (0, 1, 2))
        self.assertEqual(column_order_for(GAPPED), (0, 1, 2, 3, 4))
        self.assertEqual(column_order_for((5, ((1, 2), (1, 4)))), (0, 2, 1, 3, 4))
        self.assertEqual(column_order_for(ALIKE), (0, 1, 2, 3, 4, 5, 6))

    def test_none_where_there_is_none(self):
        for layout in (TRIANGLE, RING, TAILED, LOT_4, LOT_7, RING_6):
            self.assertIsNone(column_order_for(layout))

    def test_held_against_all_orders(self):
        for layout in samples.small_layouts() + samples.wide_layouts(24):
            told = column_order_for(layout)
            self.assertEqual(told, samples.first_of(samples.column_orders(layout)), layout)
            self.assertEqual(told is None, first_join_tree(layout) is None, layout)
            if told is not None:
                self.assertIs(is_column_order(layout, told), True)

    def test_seven_columns_and_six_heads(self):
        for layout in samples.wide_layouts(300):
            self.assertEqual(column_order_for(layout) is None, first_join_tree(layout) is None, layout)
