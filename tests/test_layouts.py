"""Stage 1: [2], [11], [12], and of [5] what layouts refuse."""

import itertools
import unittest

from jointrees.errors import NoColumn, NoHead, NoOrder, TooMany
from jointrees.layouts import beside, common, heads_of, is_layout, named, pieces, without
from tests import samples
from tests.samples import (ALIKE, APART, BIG, COVERED, GAPPED, LINE, NO_NUMBERS, ODD, ONE, PATH, RING, STAR, TAILED,
                           TWINS, WITHIN)


class IsLayout(unittest.TestCase):
    def check(self, due, things):
        for thing in things:
            with self.subTest(str(thing)[:80]):
                self.assertIs(is_layout(thing), due)

    def test_layouts(self):
        self.check(True, samples.LAYOUTS)

    def test_edges_that_are_layouts(self):
        self.check(True, [(1, ((0,),)), (7, ((0,),)), (7, ((0, 1, 2, 3, 4, 5, 6),)), (7, ((6,),)),
                          (2, ((0,),) * 6), (2, ((0, 1), (0, 1))), (3, ((0,), (2,)))])

    def test_many_is_a_whole_number_from_one_to_seven(self):
        self.check(False, [(many, ((0,),)) for many in NO_NUMBERS + [0, -1, 8, BIG, -BIG]])
        self.check(False, [(0, ()), (8, ((0, 7),)), (8, ((7,),))])

    def test_heads_are_a_tuple_of_one_to_six(self):
        self.check(False, [(2, ()), (2, ((0,),) * 7), (2, [(0,), (1,)]), (2, {0: (0,)}), (2, "0"), (2, None),
                           (2, 0), (2, True), (2, (0, 1)), (1, (0,))])

    def test_a_head_is_a_rising_tuple_of_columns(self):
        heads = [(), (0, 0), (1, 0), (0, 2, 1), (0, 1, 1), (3,), (0, 3), (0, BIG), (-1,), (-1, 0), (True,), (False,),
                 (0, True), (False, 1), [0], [0, 1], "0", ("0",), (None,), ([0],), ((0,),), {0: 1}, 0, None, True]
        self.check(False, [(3, (head,)) for head in heads])
        self.check(False, [(3, ((0, 1), head)) for head in heads])
        self.check(False, [(3, (head, (0, 1))) for head in heads])

    def test_a_tuple_of_two(self):
        self.check(False, [(), (3,), (3, ((0,),), 0), (3, (0,), (1,)), (((0,),), 3), [3, ((0,),)], {3: ((0,),)}])

    def test_things_of_whatever_kind(self):
        self.check(False, ODD)
        self.check(False, [(2, thing) for thing in ODD])
        self.check(False, [(2, (thing,)) for thing in ODD if thing != (0,)])
        self.check(False, [(2, ((thing,),)) for thing in ODD])

    def test_what_the_program_tells_is_a_layout(self):
        self.check(True, [named(PATH, (3, 1, 0, 2)), beside(LINE, TWINS), without(PATH, 1)])


class HeadsOf(unittest.TestCase):
    def test_heads_that_have_a_column(self):
        self.assertEqual([heads_of(PATH, column) for column in range(4)], [(0,), (0, 1), (1, 2), (2,)])
        self.assertEqual(heads_of(ALIKE, 6), (0, 1, 2, 3, 4, 5))
        self.assertEqual(heads_of(TAILED, 3), (0, 3))

    def test_a_column_in_no_head(self):
        self.assertEqual(heads_of(GAPPED, 1), ())
        self.assertEqual(heads_of(GAPPED, 3), ())

    def test_what_is_no_column(self):
        for thing in ODD + [3, 5]:
            with self.subTest(str(thing)[:80]):
                with self.assertRaises(NoColumn):
                    heads_of(LINE, thing)

    def test_more_heads_than_columns_make_no_column(self):
        with self.assertRaises(NoColumn):
            heads_of(TWINS, 2)
        with self.assertRaises(NoColumn):
            heads_of(COVERED, 3)


class Common(unittest.TestCase):
    def test_either_way_about(self):
        for layout in samples.small_layouts()[:300]:
            heads = layout[1]
            for one, other in itertools.product(range(len(heads)), repeat=2):
                due = tuple(sorted(set(heads[one]) & set(heads[other])))
                self.assertEqual(common(layout, one, other), due)

    def test_a_head_and_itself(self):
        self.assertEqual(common(COVERED, 3, 3), (0, 1, 2))
        self.assertEqual(common(ONE, 0, 0), (0,))

    def test_no_common_column(self):
        self.assertEqual(common(PATH, 0, 2), ())
        self.assertEqual(common(PATH, 2, 0), ())

    def test_some_common_columns(self):
        self.assertEqual(common(TAILED, 0, 3), (3,))
        self.assertEqual(common(COVERED, 3, 2), (0, 2))

    def test_what_is_no_head(self):
        for thing in ODD + [2, 3]:
            with self.subTest(str(thing)[:80]):
                for one, other in ((thing, 0), (0, thing), (thing, thing)):
                    with self.assertRaises(NoHead):
                        common(LINE, one, other)


class Pieces(unittest.TestCase):
    def test_pieces_by_their_least_ones(self):
        self.assertEqual(pieces(ONE), [(0,)])
        self.assertEqual(pieces(PATH), [(0, 1, 2)])
        self.assertEqual(pieces(APART), [(0,), (1,), (2,), (3,), (4,), (5,)])
        self.assertEqual(pieces((4, ((3,), (0, 1), (2, 3), (1,)))), [(0, 2), (1, 3)])
        self.assertEqual(pieces((7, ((6,), (0, 1), (2, 3), (4, 5), (1, 2)))), [(0,), (1, 2, 4), (3,)])

    def test_by_way_of_a_later_head(self):
        self.assertEqual(pieces((4, ((0,), (1,), (2,), (0, 1, 2)))), [(0, 1, 2, 3)])
        self.assertEqual(pieces((6, ((0,), (1,), (2,), (3,), (1, 3), (0, 3)))), [(0, 1, 3, 4, 5), (2,)])

    def test_pieces_by_their_definition(self):
        for layout in samples.small_layouts():
            heads = layout[1]
            pairs = [(a, b) for a, b in itertools.combinations(range(len(heads)), 2) if set(heads[a]) & set(heads[b])]
            told = pieces(layout)
            self.assertEqual(sorted(sum(told, ())), list(range(len(heads))))
            self.assertEqual(told, sorted(tuple(sorted(piece)) for piece in told))
            for piece in told:
                self.assertTrue(samples.hang(piece, pairs))
            for a, b in pairs:
                self.assertTrue(any(a in piece and b in piece for piece in told))


class Named(unittest.TestCase):
    def test_the_column_number_k_of_the_order_is_numbered_k(self):
        self.assertEqual(named(LINE, (2, 0, 1)), (3, ((1, 2), (0, 2))))
        self.assertEqual(named(GAPPED, (4, 3, 2, 1, 0)), (5, ((2, 4), (0, 2), (0,))))
        self.assertEqual(named(ONE, (0,)), ONE)

    def test_by_every_order(self):
        for order in itertools.permutations(range(5)):
            many, heads = named(TAILED, order)
            self.assertEqual(many, 5)
            self.assertEqual(len(heads), 5)
            for head, old in zip(heads, TAILED[1]):
                self.assertEqual(list(head), sorted(set(head)))
                self.assertEqual(sorted(order[column] for column in head), list(old))
        self.assertEqual(named(TAILED, (0, 1, 2, 3, 4)), TAILED)

    def test_what_is_no_order(self):
        wrong = [(), (0, 1), (0, 0, 1), (0, 1, 1), (0, 1, 2, 3), (0, 1, 2, 2), (0, 1, 3), (1, 2, 3), (-1, 0, 1),
                 (0, True, 2), (False, 1, 2), (0, 1, BIG), [0, 1, 2], "012", ("0", "1", "2"), (0, 1, None),
                 (0, 1, [2]), (0, 1, (2,)), {0: 0, 1: 1, 2: 2}, ((0, 1, 2),), (0, 1, {2: 2})]
        for thing in ODD + wrong:
            with self.subTest(str(thing)[:80]):
                with self.assertRaises(NoOrder):
                    named(LINE, thing)

    def test_a_column_in_no_head_is_wanted_too(self):
        with self.assertRaises(NoOrder):
            named(GAPPED, (0, 2, 4))


class Beside(unittest.TestCase):
    def test_the_other_ones_columns_and_heads_stand_behind(self):
        self.assertEqual(beside(LINE, TWINS), (5, ((0, 1), (1, 2), (3, 4), (3, 4))))
        self.assertEqual(beside(TWINS, LINE), (5, ((0, 1), (0, 1), (2, 3), (3, 4))))

    def test_columns_in_no_head_are_counted(self):
        self.assertEqual(beside((3, ((0,),)), (3, ((1,),))), (6, ((0,), (4,))))

    def test_just_seven_columns_and_just_six_heads(self):
        self.assertEqual(beside(LINE, PATH), (7, ((0, 1), (1, 2), (3, 4), (4, 5), (5, 6))))
        self.assertEqual(beside(STAR, (3, ((0,), (1,), (2,)))),
                         (7, ((0, 1), (0, 2), (0, 3), (4,), (5,), (6,))))
        self.assertEqual(beside((1, ((0,),) * 5), ONE), (2, ((0,),) * 5 + ((1,),)))

    def test_beyond_seven_columns_or_six_heads(self):
        for one, other in ((PATH, PATH), (ALIKE, ONE), ((7, ((0,),)), ONE), (ONE, (7, ((0,),))), (PATH, RING),
                           ((1, ((0,),) * 6), ONE), (ONE, (1, ((0,),) * 6)), ((1, ((0,),) * 4), STAR), (ALIKE, ALIKE)):
            with self.subTest((one, other)):
                with self.assertRaises(TooMany):
                    beside(one, other)


class Without(unittest.TestCase):
    def test_the_first_one_in_between_and_the_last_one(self):
        self.assertEqual(without(PATH, 0), (4, ((1, 2), (2, 3))))
        self.assertEqual(without(PATH, 1), (4, ((0, 1), (2, 3))))
        self.assertEqual(without(PATH, 2), (4, ((0, 1), (1, 2))))
        self.assertEqual(without(WITHIN, 1), (3, ((1,),)))

    def test_one_of_two_alike(self):
        self.assertEqual(without(TWINS, 1), (2, ((0, 1),)))

    def test_the_only_one(self):
        with self.assertRaises(NoHead):
            without(ONE, 0)

    def test_what_is_no_head(self):
        for thing in ODD + [3, 4]:
            with self.subTest(str(thing)[:80]):
                with self.assertRaises(NoHead):
                    without(PATH, thing)
        with self.assertRaises(NoHead):
            without(ONE, 1)
