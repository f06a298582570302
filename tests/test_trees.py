"""Stage 3: [31], [32], [33], [34], of [5] what trees refuse, and of [7] what join trees are in."""

import itertools
import unittest

from jointrees.errors import NoHead, NoTree
from jointrees.trees import (all_join_trees, due_weight, first_join_tree, is_join_tree, is_tree, many_join_trees,
                             way_in, weight_of)
from tests import samples
from tests.samples import (ALIKE, APART, BIG, COVERED, GAPPED, LINE, ODD, ONE, PATH, RING, STAR, TAILED, TRIANGLE,
                           TWINS, WITHIN, nested)

# For a layout of four heads.
WRONG_TREES = [
    (), ((0, 1),), ((0, 1), (0, 2)), ((0, 1), (0, 2), (0, 3), (1, 2)), ((0, 1), (0, 2), (1, 2)),
    ((0, 1), (0, 1), (0, 2)), ((0, 1), (2, 3), (2, 3)), ((0, 2), (0, 1), (0, 3)), ((0, 1), (0, 3), (0, 2)),
    ((1, 0), (1, 2), (2, 3)), ((0, 1), (1, 2), (3, 2)), ((0, 0), (0, 1), (2, 3)), ((0, 1), (1, 1), (2, 3)),
    ((0, 1), (1, 2), (3, 3)), ((0, 1), (1, 2), (2, 4)), ((-1, 0), (0, 1), (1, 2)), ((0, 1), (1, 2), (2, BIG)),
    [(0, 1), (1, 2), (2, 3)], ([0, 1], (1, 2), (2, 3)), ((0, 1), (1, 2), [2, 3]), ((0, True), (1, 2), (2, 3)),
    ((False, 1), (1, 2), (2, 3)), ((0, 1), (True, 2), (2, 3)), ((0, 1), (1, 2), (2, 3, 4)), ((0, 1), (1, 2), (2,)),
    ((0, 1), (1, 2), ()), ((0, 1), (1, 2), 2), ((0, 1), (1, 2), None), ((0, 1), (1, 2), "23"), "012",
    (("0", "1"), ("1", "2"), ("2", "3")), ((0, 1), (1, 2), (2, "3")), ((0, 1), (1, 2), (2, None)),
    ((0, 1), (1, 2), ((2, 3),)), (((0, 1), (1, 2), (2, 3)),), {(0, 1): (1, 2)}, ({0: 1}, {1: 2}, {2: 3}),
    ((0, 1), (1, 2), (2, [3])), (0, 1, 2), (None, None, None), (True, True, True), nested(7, tuple), nested(7, list),
    ((0, 1),) * 8000, ((0, 1), (0, 2), {}), ((1, 2), (1, 3), (2, 3)),
]


class IsTree(unittest.TestCase):
    def check(self, layout, due, things):
        for thing in things:
            with self.subTest(str(thing)[:80]):
                self.assertIs(is_tree(layout, thing), due)

    def test_the_tree_of_one_head(self):
        self.check(ONE, True, [()])
        self.check(ONE, False, [thing for thing in ODD if thing != ()] + [((0, 0),), ((0, 1),), ((),)])
        self.assertIs(is_join_tree(ONE, ()), True)

    def test_trees(self):
        self.check(RING, True, [((0, 1), (0, 2), (0, 3)), ((0, 1), (1, 2), (2, 3)), ((0, 3), (1, 3), (2, 3)),
                                ((0, 2), (1, 2), (1, 3))])
        self.check(LINE, True, [((0, 1),)])

    def test_what_is_no_tree(self):
        self.check(RING, False, WRONG_TREES + ODD)
        self.check(RING, False, [((0, 1), (1, 2), thing) for thing in ODD])
        self.check(RING, False, [((0, 1), (1, 2), (2, thing)) for thing in ODD])
        self.check(RING, False, [(thing, (0, 1), (1, 2)) for thing in ODD])
        for thing in WRONG_TREES + ODD:
            self.assertIs(is_join_tree(COVERED, thing), False)

    def test_by_their_definition(self):
        for layout in (ONE, LINE, TRIANGLE, RING, COVERED):
            numbers = range(len(layout[1]))
            trees = samples.plain_trees(layout)
            for size in range(len(layout[1]) + 1):
                for thing in itertools.product(itertools.product(numbers, repeat=2), repeat=size):
                    if size < 4 or thing[:2] == ((0, 1), (1, 2)):
                        self.assertIs(is_tree(layout, thing), thing in trees)

    def test_all_trees_of_six_heads(self):
        trees = samples.plain_trees(ALIKE)
        self.assertEqual(len(trees), 1296)
        self.assertTrue(all(is_tree(ALIKE, tree) for tree in trees))
        pairs = list(itertools.combinations(range(6), 2))
        told = [thing for thing in itertools.combinations(pairs, 5) if is_tree(APART, thing)]
        self.assertEqual(told, trees)


class IsJoinTree(unittest.TestCase):
    def test_trees_that_are_no_join_trees(self):
        self.assertIs(is_join_tree(PATH, ((0, 1), (1, 2))), True)
        self.assertIs(is_join_tree(PATH, ((0, 2), (1, 2))), False)
        self.assertIs(is_join_tree(PATH, ((0, 1), (0, 2))), False)
        self.assertIs(is_join_tree(TRIANGLE, ((0, 1), (1, 2))), False)
        self.assertIs(is_join_tree(COVERED, ((0, 3), (1, 3), (2, 3))), True)
        self.assertIs(is_join_tree(COVERED, ((0, 1), (1, 3), (2, 3))), False)

    def test_a_column_in_no_head_bars_nothing(self):
        self.assertIs(is_join_tree(GAPPED, ((0, 1), (1, 2))), True)
        self.assertIs(is_join_tree(GAPPED, ((0, 1), (0, 2))), False)

    def test_by_their_definition(self):
        for layout in samples.small_layouts():
            for tree in samples.plain_trees(layout)[::5]:
                self.assertIs(is_join_tree(layout, tree), samples.joins(layout, tree), (layout, tree))


class JoinTrees(unittest.TestCase):
    def test_none(self):
        for layout in (TRIANGLE, RING, TAILED):
            self.assertIsNone(first_join_tree(layout))
            self.assertEqual(all_join_trees(layout), [])
            self.assertEqual(many_join_trees(layout), 0)

    def test_one_and_several(self):
        self.assertEqual(first_join_tree(ONE), ())
        self.assertEqual(all_join_trees(ONE), [()])
        self.assertEqual(many_join_trees(ONE), 1)
        self.assertEqual(all_join_trees(PATH), [((0, 1), (1, 2))])
        self.assertEqual(first_join_tree(STAR), ((0, 1), (0, 2)))
        self.assertEqual(all_join_trees(STAR), [((0, 1), (0, 2)), ((0, 1), (1, 2)), ((0, 2), (1, 2))])
        self.assertEqual(many_join_trees(STAR), 3)

    def test_six_heads_alike_or_with_no_column_in_common(self):
        for layout in (ALIKE, APART):
            trees = all_join_trees(layout)
            self.assertEqual(trees, samples.plain_trees(layout))
            self.assertEqual(many_join_trees(layout), 1296)
            self.assertEqual(first_join_tree(layout), ((0, 1), (0, 2), (0, 3), (0, 4), (0, 5)))

    def test_by_their_definition(self):
        for layout in samples.small_layouts():
            due = [tree for tree in samples.plain_trees(layout) if samples.joins(layout, tree)]
            self.assertEqual(all_join_trees(layout), due, layout)
            self.assertEqual(due, sorted(due))
            self.assertEqual(many_join_trees(layout), len(due))
            self.assertEqual(first_join_tree(layout), due[0] if due else None)

    def test_the_number_is_a_whole_one(self):
        self.assertIs(type(many_join_trees(ONE)), int)


class Weights(unittest.TestCase):
    def test_weight_of_a_tree(self):
        self.assertEqual(weight_of(ONE, ()), 0)
        self.assertEqual(weight_of(COVERED, ((0, 3), (1, 3), (2, 3))), 6)
        self.assertEqual(weight_of(COVERED, ((0, 1), (0, 2), (0, 3))), 4)
        self.assertEqual(weight_of(ALIKE, ((0, 1), (1, 2), (2, 3), (3, 4), (4, 5))), 35)
        self.assertEqual(weight_of(PATH, ((0, 1), (0, 2))), 1)
        self.assertEqual(weight_of(APART, ((0, 1), (0, 2), (0, 3), (0, 4), (0, 5))), 0)

    def test_due_weight(self):
        due = {ONE: 0, LINE: 1, PATH: 2, TRIANGLE: 3, COVERED: 6, RING: 4, ALIKE: 35, APART: 0, TWINS: 2, WITHIN: 1,
               GAPPED: 2}
        for layout, weight in due.items():
            self.assertEqual(due_weight(layout), weight)

    def test_what_is_no_tree(self):
        for thing in WRONG_TREES + ODD:
            with self.subTest(str(thing)[:80]):
                with self.assertRaises(NoTree):
                    weight_of(RING, thing)

    def test_no_tree_weighs_more_than_is_due_and_just_join_trees_so_much(self):
        for layout in samples.small_layouts():
            due = due_weight(layout)
            for tree in samples.plain_trees(layout)[::5]:
                weight = weight_of(layout, tree)
                self.assertLessEqual(weight, due)
                self.assertEqual(weight == due, samples.joins(layout, tree))


class Ways(unittest.TestCase):
    def test_ways(self):
        line = ((0, 1), (1, 2), (2, 3))
        self.assertEqual(way_in(RING, line, 0, 3), (0, 1, 2, 3))
        self.assertEqual(way_in(RING, line, 3, 1), (3, 2, 1))
        self.assertEqual(way_in(RING, ((0, 3), (1, 3), (2, 3)), 0, 2), (0, 3, 2))
        self.assertEqual(way_in(ALIKE, ((0, 5), (1, 4), (1, 5), (2, 3), (2, 4)), 0, 3), (0, 5, 1, 4, 2, 3))

    def test_from_a_head_to_itself(self):
        self.assertEqual(way_in(ONE, (), 0, 0), (0,))
        self.assertEqual(way_in(PATH, ((0, 1), (1, 2)), 2, 2), (2,))

    def test_by_their_definition(self):
        for tree in samples.plain_trees(ALIKE)[::17]:
            for one, other in itertools.product(range(6), repeat=2):
                way = way_in(ALIKE, tree, one, other)
                self.assertEqual((way[0], way[-1]), (one, other))
                self.assertEqual(len(set(way)), len(way))
                for pair in zip(way, way[1:]):
                    self.assertIn(tuple(sorted(pair)), tree)

    def test_in_a_join_tree_each_head_of_a_way_has_what_both_ends_have(self):
        for layout in samples.small_layouts():
            heads = layout[1]
            for tree in all_join_trees(layout)[:3]:
                for one, other in itertools.product(range(len(heads)), repeat=2):
                    both = set(heads[one]) & set(heads[other])
                    for head in way_in(layout, tree, one, other):
                        self.assertTrue(both <= set(heads[head]))

    def test_what_is_no_tree_goes_ahead_of_what_is_no_head(self):
        for thing in WRONG_TREES + ODD:
            with self.subTest(str(thing)[:80]):
                for one, other in ((0, 1), (9, 0), (0, None), (True, [])):
                    with self.assertRaises(NoTree):
                        way_in(RING, thing, one, other)

    def test_what_is_no_head(self):
        for thing in ODD + [3, 4]:
            with self.subTest(str(thing)[:80]):
                for one, other in ((thing, 0), (0, thing), (thing, thing)):
                    with self.assertRaises(NoHead):
                        way_in(PATH, ((0, 1), (1, 2)), one, other)
        with self.assertRaises(NoHead):
            way_in(ONE, (), 0, 1)
