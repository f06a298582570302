"""Stage 5: [53], and of [2] that truths are no columns and no numbers of heads."""

import itertools
import unittest

from jointrees.layouts import pieces
from jointrees.loops import counts_of, is_loop, loop_of
from tests import samples
from tests.samples import (ALIKE, APART, BIG, COVERED, GAPPED, LINE, LOT_4, ODD, ONE, PATH, RING, RING_6, STAR, TAILED,
                           TRIANGLE, TWINS, WITHIN)


class IsLoop(unittest.TestCase):
    def check(self, layout, due, things):
        for thing in things:
            with self.subTest(str(thing)[:80]):
                self.assertIs(is_loop(layout, thing), due)

    def test_two_heads_with_two_columns_in_common(self):
        self.check(TWINS, True, [((0, 1), (0, 1)), ((0, 1), (1, 0)), ((1, 0), (0, 1)), ((1, 0), (1, 0))])
        self.check((4, ((0, 1, 3), (1, 2, 3))), True, [((0, 1), (1, 3)), ((0, 1), (3, 1))])

    def test_three_places_and_more(self):
        self.check(TRIANGLE, True, [((0, 1, 2), (1, 2, 0)), ((2, 1, 0), (2, 1, 0))])
        self.check(RING, True, [((0, 1, 2, 3), (1, 2, 3, 0)), ((3, 0, 1, 2), (0, 1, 2, 3))])
        self.check(RING_6, True, [((0, 1, 2, 3, 4, 5), (1, 2, 3, 4, 5, 0))])
        self.check(ALIKE, True, [((0, 1, 2, 3, 4, 5), (6, 0, 5, 1, 4, 2)), ((5, 2), (3, 4))])

    def test_a_column_may_be_in_a_third_one(self):
        self.check((3, ((0, 1), (1, 2), (0, 1, 2))), True, [((0, 1, 2), (1, 2, 0)), ((0, 2), (0, 1))])

    def test_one_place_or_none(self):
        self.check(TWINS, False, [((0,), (0,)), ((), ())])
        self.check(ONE, False, [((0,), (0,)), ((), ())])

    def test_tuples_of_unlike_length(self):
        self.check(TWINS, False, [((0, 1), (0,)), ((0,), (0, 1)), ((0, 1), ()), ((), (0, 1))])
        self.check(ALIKE, False, [((0, 1, 2), (0, 1)), ((0, 1), (0, 1, 2))])

    def test_a_head_twice_or_a_column_twice(self):
        self.check(TWINS, False, [((0, 0), (0, 1)), ((1, 1), (0, 1)), ((0, 1), (0, 0)), ((0, 1), (1, 1)),
                                  ((0, 1, 0, 1), (0, 1, 0, 1)), ((0, 1, 0), (0, 1, 0))])
        self.check(ALIKE, False, [((0, 1, 0), (0, 1, 2)), ((0, 1, 2), (0, 1, 0)), ((0, 1, 2, 2), (0, 1, 2, 3))])
        self.check(LINE, False, [((0, 1), (1, 1))])

    def test_a_column_that_is_not_in_its_head_or_in_the_next(self):
        self.check(LINE, False, [((0, 1), (0, 1)), ((0, 1), (1, 0)), ((0, 1), (1, 2)), ((0, 1), (2, 1))])
        self.check(TRIANGLE, False, [((0, 1, 2), columns) for columns in itertools.permutations(range(3))
                                     if columns != (1, 2, 0)])
        self.check(PATH, False, [((0, 1, 2), (1, 2, 0)), ((0, 1, 2), (1, 2, 3))])
        self.check((4, ((0, 1), (1, 2), (2, 3), (3,))), False, [((0, 1, 2, 3), (1, 2, 3, 0))])

    def test_numbers_beyond_and_below_nought(self):
        self.check(TWINS, False, [((0, 2), (0, 1)), ((0, -1), (0, 1)), ((0, 1), (0, 2)), ((0, 1), (-1, 0)),
                                  ((0, 1), (-2, -1)), ((-2, -1), (0, 1)), ((0, BIG), (0, 1)), ((0, 1), (0, -BIG))])

    def test_lists_truths_and_things_of_other_kinds(self):
        self.check(TWINS, False, [[(0, 1), (0, 1)], ([0, 1], (0, 1)), ((0, 1), [0, 1]), ((False, 1), (0, 1)),
                                  ((0, True), (0, 1)), ((0, 1), (False, 1)), ((0, 1), (0, True)), ((0, 1),),
                                  ((0, 1), (0, 1), ()), (0, 1), (0, 1, 0, 1), "01", ("01", "01"), {0: (0, 1)}])
        self.check(TWINS, False, ODD)
        self.check(TWINS, False, [(thing, (0, 1)) for thing in ODD] + [((0, 1), thing) for thing in ODD])
        self.check(TWINS, False, [(thing, thing) for thing in ODD])
        self.check(TWINS, False, samples.spoiled(((0, 1), (0, 1))))
        self.check(TRIANGLE, False, samples.spoiled(((0, 1, 2), (1, 2, 0))))

    def test_by_their_definition(self):
        for layout in (ONE, LINE, TWINS, WITHIN, TRIANGLE, COVERED, STAR, LOT_4):
            numbers, columns = range(len(layout[1])), range(layout[0])
            for size in (1, 2, 3):
                for thing in itertools.product(itertools.product(numbers, repeat=size),
                                               itertools.product(columns, repeat=size)):
                    self.assertIs(is_loop(layout, thing), samples.plain_is_loop(layout, *thing), (layout, thing))
        for layout in samples.drawn_layouts(60):
            for thing in itertools.islice(samples.ways_round(layout, 2), 0, 4000, 7):
                self.assertIs(is_loop(layout, thing), samples.plain_is_loop(layout, *thing), (layout, thing))


class LoopOf(unittest.TestCase):
    def test_some_loop_or_none(self):
        for layout in (TWINS, TRIANGLE, COVERED, RING, RING_6, TAILED, ALIKE, LOT_4):
            self.assertIs(is_loop(layout, loop_of(layout)), True)
        for layout in (ONE, LINE, PATH, STAR, APART, WITHIN, GAPPED, (7, ((0, 1, 2, 3, 4, 5, 6),))):
            self.assertIsNone(loop_of(layout))

    def test_a_loop_that_the_first_head_is_not_in(self):
        for layout in ((2, ((0,), (0, 1), (0, 1))), (3, ((0,), (1, 2), (1, 2))), (4, ((0, 1), (1, 2, 3), (2, 3))),
                       (4, ((3,), (0, 3), (0, 1), (1, 2), (2, 0))), (7, ((0,), (1,), (2,), (3, 4), (6,), (3, 4, 5)))):
            self.assertIs(is_loop(layout, loop_of(layout)), True, layout)

    def test_held_against_all_ways_round(self):
        for layout in samples.small_layouts():
            told = loop_of(layout)
            there = any(samples.plain_is_loop(layout, *way) for way in samples.ways_round(layout, 2))
            self.assertEqual(told is not None, there, layout)
            if told is not None:
                self.assertIs(type(told), tuple)
                self.assertTrue(samples.plain_is_loop(layout, *told), layout)
                self.assertIs(is_loop(layout, told), True)


class CountsOf(unittest.TestCase):
    def test_counts(self):
        self.assertEqual(counts_of(ONE), (1, 1, 1, 1))
        self.assertEqual(counts_of(PATH), (4, 3, 6, 1))
        self.assertEqual(counts_of(TRIANGLE), (3, 3, 6, 1))

    def test_a_column_in_no_head_is_not_counted(self):
        self.assertEqual(counts_of(GAPPED), (3, 3, 5, 1))
        self.assertEqual(counts_of((7, ((6,),))), (1, 1, 1, 1))

    def test_heads_alike(self):
        self.assertEqual(counts_of(TWINS), (2, 2, 4, 1))
        self.assertEqual(counts_of(ALIKE), (7, 6, 42, 1))
        self.assertEqual(counts_of((3, ((1,), (1,), (1,)))), (1, 3, 3, 1))

    def test_pieces(self):
        self.assertEqual(counts_of(APART), (7, 6, 7, 6))
        self.assertEqual(counts_of((4, ((3,), (0, 1), (2, 3), (1,)))), (4, 4, 6, 2))
        self.assertEqual(counts_of((4, ((0,), (1,), (2,), (0, 1, 2)))), (3, 4, 6, 1))

    def test_by_their_definition(self):
        for layout in samples.small_layouts() + samples.wide_layouts(60):
            heads = layout[1]
            due = (len(set().union(*heads)), len(heads), sum(map(len, heads)), len(pieces(layout)))
            self.assertEqual(counts_of(layout), due)
            self.assertEqual([type(number) for number in counts_of(layout)], [int] * 4)

    def test_there_is_no_loop_just_where_the_first_two_come_to_as_much_as_the_last_two(self):
        for layout in samples.small_layouts() + samples.wide_layouts(300):
            columns, heads, each, parts = counts_of(layout)
            told = loop_of(layout)
            self.assertEqual(told is None, columns + heads == each + parts, layout)
            if told is not None:
                self.assertIs(is_loop(layout, told), True)
