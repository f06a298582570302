"""Stage 5: [51], [52], [54], of [5] what is refused, of [2] truths, and of [7] what nests are in."""

import itertools
import unittest

from jointrees.errors import NoHead
from jointrees.layouts import is_layout
from jointrees.nests import are_nests, first_nests, heads_alone, is_wreath, wreath_of
from jointrees.trees import first_join_tree
from tests import samples
from tests.samples import (ALIKE, APART, BIG, COVERED, GAPPED, LINE, LOT_4, ODD, ONE, PATH, RING, RING_5, RING_6, STAR,
                           TAILED, TRIANGLE, TWINS, WITHIN)


class AreNests(unittest.TestCase):
    def check(self, layout, due, things):
        for thing in things:
            with self.subTest(str(thing)[:80]):
                self.assertIs(are_nests(layout, thing), due)

    def test_rows_of_nests(self):
        self.check(ONE, True, [(0,)])
        self.check(LINE, True, [(0, 1, 2), (0, 2, 1), (2, 0, 1), (2, 1, 0)])
        self.check(TWINS, True, [(0, 1), (1, 0)])
        self.check(WITHIN, True, itertools.permutations(range(3)))
        self.check(ALIKE, True, [(0, 1, 2, 3, 4, 5, 6), (6, 5, 4, 3, 2, 1, 0), (3, 0, 6, 1, 5, 2, 4)])
        self.check(APART, True, [(0, 1, 2, 3, 4, 5, 6), (5, 4, 3, 6, 2, 1, 0)])

    def test_a_column_that_is_no_nest(self):
        self.check(LINE, False, [(1, 0, 2), (1, 2, 0)])
        self.check(TRIANGLE, False, itertools.permutations(range(3)))
        self.check(COVERED, False, itertools.permutations(range(3)))
        self.check(RING, False, itertools.permutations(range(4)))

    def test_a_nest_only_when_others_are_taken_out_ahead(self):
        self.check(PATH, True, [(0, 1, 2, 3), (0, 3, 1, 2), (3, 2, 1, 0)])
        self.check(PATH, False, [(1, 0, 2, 3), (0, 2, 1, 3), (3, 1, 0, 2), (1, 2, 3, 0)])
        self.check(STAR, True, [(1, 2, 0, 3), (1, 2, 3, 0), (3, 1, 0, 2)])
        self.check(STAR, False, [(0, 1, 2, 3), (1, 0, 2, 3), (3, 0, 1, 2)])

    def test_a_column_in_no_head(self):
        self.check(GAPPED, True, [(0, 2, 4), (0, 4, 2)])
        self.check(GAPPED, False, [(0, 1, 2, 4), (0, 2, 4, 1), (0, 1, 2, 3, 4), (0, 2, 4, 1, 3), (1, 0, 2, 4), (1, 3)])
        self.check((7, ((6,),)), True, [(6,)])
        self.check((7, ((6,),)), False, [(0,), (0, 6), (6, 0), (0, 1, 2, 3, 4, 5, 6), (5,)])

    def test_a_column_twice_left_out_or_beyond(self):
        self.check(LINE, False, [(), (0,), (0, 2), (0, 1), (0, 2, 2), (0, 0, 2), (0, 2, 1, 1), (0, 2, 1, 0), (2, 2, 2),
                                 (0, 2, 3), (0, 2, 1, 3), (0, 2, -1), (-1, 0, 2, 1), (0, 2, BIG), (0, 2, 1) * 8000])

    def test_of_no_layout_are_no_columns_a_row_of_nests(self):
        for layout in samples.LAYOUTS:
            self.check(layout, False, [()])

    def test_lists_truths_and_things_of_other_kinds(self):
        self.check(LINE, False, [[0, 2, 1], (False, 2, 1), (0, 2, True), (False, 2, True), ("0", "2", "1"), "021"])
        self.check(ONE, False, [(False,), [0], 0, "0", ((0,),), ([0],)])
        self.check((2, ((1,),)), False, [(True,), (False,), [1], True])
        self.check(LINE, False, ODD)
        self.check(LINE, False, [(0, 2, thing) for thing in ODD] + [(thing, 0, 1) for thing in ODD])
        self.check(LINE, False, samples.spoiled((0, 2, 1)))

    def test_by_their_definition(self):
        for layout in [layout for layout in samples.small_layouts() if layout[0] < 6][::3]:
            for row in itertools.permutations(range(layout[0])):
                due = samples.in_heads(layout) == sorted(row) and samples.is_row_of_nests(layout, row)
                self.assertIs(are_nests(layout, row), due, (layout, row))
            for row in itertools.permutations(samples.in_heads(layout)):
                self.assertIs(are_nests(layout, row), samples.is_row_of_nests(layout, row), (layout, row))


class FirstNests(unittest.TestCase):
    def test_the_first_as_tuples_compare(self):
        self.assertEqual(first_nests(ONE), (0,))
        self.assertEqual(first_nests(LINE), (0, 1, 2))
        self.assertEqual(first_nests(STAR), (1, 2, 0, 3))
        self.assertEqual(first_nests((4, ((0, 3), (1, 3), (2, 3)))), (0, 1, 2, 3))
        self.assertEqual(first_nests(GAPPED), (0, 2, 4))
        self.assertEqual(first_nests(ALIKE), (0, 1, 2, 3, 4, 5, 6))
        self.assertEqual(first_nests((7, ((6,),))), (6,))

    def test_none(self):
        for layout in (TRIANGLE, COVERED, RING, TAILED, LOT_4, RING_6):
            self.assertIsNone(first_nests(layout))

    def test_held_against_all_orders(self):
        for layout in samples.small_layouts() + samples.wide_layouts(24):
            told = first_nests(layout)
            self.assertEqual(told, samples.first_of(samples.rows_of_nests(layout)), layout)
            if told is not None:
                self.assertIs(are_nests(layout, told), True)


class IsWreath(unittest.TestCase):
    def check(self, layout, due, things):
        for thing in things:
            with self.subTest(str(thing)[:80]):
                self.assertIs(is_wreath(layout, thing), due)

    def test_three_places_and_more(self):
        self.check(TRIANGLE, True, [((0, 1, 2), (1, 2, 0)), ((1, 2, 0), (2, 0, 1)), ((2, 1, 0), (2, 1, 0))])
        self.check(COVERED, True, [((0, 1, 2), (1, 2, 0))])
        self.check(RING, True, [((0, 1, 2, 3), (1, 2, 3, 0)), ((2, 1, 0, 3), (2, 1, 0, 3))])
        self.check(RING_5, True, [((0, 1, 2, 3, 4), (1, 2, 3, 4, 0))])
        self.check(RING_6, True, [((0, 1, 2, 3, 4, 5), (1, 2, 3, 4, 5, 0)), ((5, 4, 3, 2, 1, 0), (5, 4, 3, 2, 1, 0))])

    def test_two_places_and_fewer(self):
        self.check(TWINS, False, [((0, 1), (0, 1)), ((0,), (0,)), ((), ())])
        self.check(TRIANGLE, False, [((0, 1), (1, 1)), ((0, 1), (1, 2)), ((0,), (0,)), ((), ())])

    def test_tuples_of_unlike_length(self):
        self.check(TRIANGLE, False, [((0, 1, 2), (1, 2)), ((0, 1), (1, 2, 0)), ((0, 1, 2), (1, 2, 0, 1)),
                                     ((0, 1, 2), ()), ((), (1, 2, 0))])
        self.check(RING, False, [((0, 1, 2, 3), (1, 2, 3)), ((0, 1, 2), (1, 2, 3, 0))])

    def test_a_head_twice_or_a_column_twice(self):
        self.check(TRIANGLE, False, [((0, 1, 2, 0, 1, 2), (1, 2, 0, 1, 2, 0)), ((0, 1, 1, 2), (1, 2, 2, 0)),
                                     ((0, 0, 1, 2), (0, 1, 2, 0)), ((0, 1, 0), (1, 1, 0))])
        self.check((3, ((0, 1), (1, 2), (0, 2, 1))), False, [((0, 1, 2), (1, 1, 0)), ((0, 1, 2), (1, 1, 1))])
        self.check((2, ((0, 1), (0, 1), (0, 1))), False, [((0, 1, 2), (0, 1, 0)), ((0, 1, 2), (0, 0, 1))])

    def test_a_column_in_a_third_one_of_these_heads(self):
        self.check((3, ((0, 1), (1, 2), (0, 1, 2))), False, [((0, 1, 2), (1, 2, 0))])
        self.check((4, ((0, 1), (1, 2), (2, 3), (0, 2, 3))), False, [((0, 1, 2, 3), (1, 2, 3, 0))])
        self.check((4, ((0, 1, 3), (1, 2, 3), (0, 2, 3))), False, [((0, 1, 2), (3, 2, 0)), ((0, 1, 2), (1, 3, 0)),
                                                                   ((0, 1, 2), (1, 2, 3))])
        self.check((4, ((0, 1, 3), (1, 2, 3), (0, 2, 3))), True, [((0, 1, 2), (1, 2, 0))])
        self.check(ALIKE, False, [((0, 1, 2), (0, 1, 2))])

    def test_a_column_that_is_not_in_its_head_or_in_the_next(self):
        self.check(TRIANGLE, False, [((0, 1, 2), columns) for columns in itertools.permutations(range(3))
                                     if columns != (1, 2, 0)])
        self.check(PATH, False, [((0, 1, 2), (1, 2, 3)), ((0, 1, 2), (1, 2, 0))])
        self.check((4, ((0, 1), (1, 2), (2, 3))), False, [((0, 1, 2), (1, 2, 3))])

    def test_the_place_behind_the_last(self):
        self.check((4, ((0, 1), (1, 2), (2, 3), (3,))), False, [((0, 1, 2, 3), (1, 2, 3, 0))])
        self.check((4, ((1,), (1, 2), (2, 3), (0, 3))), False, [((0, 1, 2, 3), (1, 2, 3, 0))])

    def test_numbers_beyond_and_below_nought(self):
        self.check(TRIANGLE, False, [((0, 1, 3), (1, 2, 0)), ((0, 1, -1), (1, 2, 0)), ((0, 1, 2), (1, 2, 3)),
                                     ((0, 1, 2), (1, -1, 0)), ((0, 1, BIG), (1, 2, 0)), ((0, 1, 2), (1, 2, -BIG)),
                                     ((-3, -2, -1), (1, 2, 0)), ((0, 1, 2), (-2, -1, -3))])

    def test_lists_truths_and_things_of_other_kinds(self):
        self.check(TRIANGLE, False, [[(0, 1, 2), (1, 2, 0)], ([0, 1, 2], (1, 2, 0)), ((0, 1, 2), [1, 2, 0]),
                                     ((0, True, 2), (1, 2, 0)), ((False, 1, 2), (1, 2, 0)), ((0, 1, 2), (True, 2, 0)),
                                     ((0, 1, 2), (1, 2, False)), ((0, 1, 2),), ((0, 1, 2), (1, 2, 0), ()),
                                     ((1, 2, 0), (0, 1, 2)), (0, 1, 2, 1, 2, 0), "012", ("012", "120")])
        self.check(TRIANGLE, False, ODD)
        self.check(TRIANGLE, False, [(thing, (1, 2, 0)) for thing in ODD] + [((0, 1, 2), thing) for thing in ODD])
        self.check(TRIANGLE, False, [(thing, thing) for thing in ODD])
        self.check(TRIANGLE, False, samples.spoiled(((0, 1, 2), (1, 2, 0))))

    def test_by_their_definition(self):
        for layout in (TRIANGLE, COVERED, STAR, LOT_4, (3, ((0, 1), (1, 2), (0, 1, 2)))):
            numbers, columns = range(len(layout[1])), range(layout[0])
            for size in (1, 2, 3):
                for thing in itertools.product(itertools.product(numbers, repeat=size),
                                               itertools.product(columns, repeat=size)):
                    self.assertIs(is_wreath(layout, thing), samples.plain_is_wreath(layout, *thing), (layout, thing))
        for layout in samples.drawn_layouts(60):
            for thing in itertools.islice(samples.ways_round(layout, 2), 0, 4000, 7):
                self.assertIs(is_wreath(layout, thing), samples.plain_is_wreath(layout, *thing), (layout, thing))


class WreathOf(unittest.TestCase):
    def test_some_wreath_or_none(self):
        for layout in (TRIANGLE, COVERED, RING, RING_5, RING_6, TAILED):
            self.assertIs(is_wreath(layout, wreath_of(layout)), True)
        for layout in (ONE, LINE, PATH, STAR, ALIKE, APART, TWINS, WITHIN, GAPPED):
            self.assertIsNone(wreath_of(layout))

    def test_the_first_column_in_common_will_not_always_do(self):
        layout = (4, ((0, 1, 2), (0, 2, 3), (0, 1, 3)))
        self.assertEqual(sorted(wreath_of(layout)[1]), [1, 2, 3])
        self.assertIs(is_wreath(layout, wreath_of(layout)), True)

    def test_held_against_all_ways_round(self):
        # Six heads alike of seven columns come round in too many ways.
        for layout in [layout for layout in samples.small_layouts() if layout != ALIKE]:
            told = wreath_of(layout)
            there = any(samples.plain_is_wreath(layout, *way) for way in samples.ways_round(layout, 3))
            self.assertEqual(told is not None, there, layout)
            if told is not None:
                self.assertIs(type(told), tuple)
                self.assertTrue(samples.plain_is_wreath(layout, *told), layout)
                self.assertIs(is_wreath(layout, told), True)

    def test_there_is_a_row_of_nests_or_a_wreath_never_both(self):
        for layout in samples.small_layouts() + samples.wide_layouts(300):
            told = wreath_of(layout)
            self.assertEqual(told is None, first_nests(layout) is not None, layout)
            if told is not None:
                self.assertIs(is_wreath(layout, told), True)


class HeadsAlone(unittest.TestCase):
    def test_one_head_some_and_all(self):
        self.assertEqual(heads_alone(ONE, (0,)), ONE)
        self.assertEqual(heads_alone(PATH, (1,)), (4, ((1, 2),)))
        self.assertEqual(heads_alone(PATH, (0, 2)), (4, ((0, 1), (2, 3))))
        self.assertEqual(heads_alone(COVERED, (0, 1, 2)), TRIANGLE)
        self.assertEqual(heads_alone(TWINS, (0, 1)), TWINS)
        for layout in samples.LAYOUTS:
            numbers = tuple(range(len(layout[1])))
            self.assertEqual(heads_alone(layout, numbers), layout)
            for number in numbers:
                self.assertEqual(heads_alone(layout, (number,)), (layout[0], (layout[1][number],)))

    def test_what_is_told_is_a_layout(self):
        self.assertIs(is_layout(heads_alone(GAPPED, (1, 2))), True)
        self.assertIs(is_layout(heads_alone(ALIKE, (0, 2, 4, 5))), True)

    def test_refused(self):
        wrong = [(), (1, 0), (0, 0), (0, 1, 1), (0, 2, 1), (2, 1, 0), (3,), (0, 3), (0, 1, 2, 3), (-1,), (-1, 0),
                 (0, BIG), (-BIG, 0), (True,), (False,), (0, True), (False, 1), (0, True, 2), [0], [0, 1], [], "0",
                 ("0",), (None,), ([0],), ((0,),), ((0, 1),), {0: 1}, {}, 0, 1, None, True, False, (0, None),
                 (0, "1"), (0, [1]), (0, {1: 1}), (0, 1, 2) * 8000]
        for thing in wrong + [thing for thing in ODD if thing != (0,)] + samples.spoiled((0, 1)):
            with self.subTest(str(thing)[:80]):
                with self.assertRaises(NoHead):
                    heads_alone(PATH, thing)
        for thing in ODD:
            with self.subTest(str(thing)[:80]):
                with self.assertRaises(NoHead):
                    heads_alone(PATH, (thing,))
                with self.assertRaises(NoHead):
                    heads_alone(PATH, (0, thing))
        with self.assertRaises(NoHead):
            heads_alone(ONE, (1,))

    def test_there_is_a_row_of_nests_just_where_each_such_layout_has_a_join_tree(self):
        for layout in samples.small_layouts() + samples.wide_layouts(30):
            numbers = range(len(layout[1]))
            parts = [part for size in numbers for part in itertools.combinations(numbers, size + 1)]
            there = all(first_join_tree(heads_alone(layout, part)) is not None for part in parts)
            self.assertEqual(first_nests(layout) is not None, there, layout)
