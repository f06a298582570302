"""Stage 8: [81], [82], and of [7] that cut up and down a join tree tables keep just the rows that are in joined rows."""

import itertools
import unittest

from jointrees.cuts import cut_by, deeds_for, joined_parts
from jointrees.ears import steps_for
from jointrees.errors import Bound, NoDeed, NoTables
from jointrees.parting import parting_of
from jointrees.tables import agree, are_tables, joined
from tests import samples
from tests.samples import (ALIKE, APART, BIG, COVERED, GAPPED, LINE, LOT_4, ODD, ONE, PATH, RING, RING_6, STAR, TAILED,
                           TRIANGLE, TWINS, WITHIN)

PATH_TABLES = (((0, 1), (0, 2), (5, 3)), ((1, 1), (2, 2), (4, 4)), ((1, 7), (3, 8)))


def some_deeds(layout, turn):
    """A list of deeds of the layout, another one each turn."""
    pairs = list(itertools.permutations(range(len(layout[1])), 2))
    return [pairs[(turn * 7 + k * (turn + 2)) % len(pairs)] for k in range(turn + 1)] if pairs else []


class CutBy(unittest.TestCase):
    def test_no_deeds(self):
        self.assertEqual(cut_by(PATH, PATH_TABLES, []), PATH_TABLES)
        self.assertEqual(cut_by(ONE, ((),), []), ((),))

    def test_one_deed(self):
        first, second, third = PATH_TABLES
        self.assertEqual(cut_by(PATH, PATH_TABLES, [(0, 1)]), (((0, 1), (0, 2)), second, third))
        self.assertEqual(cut_by(PATH, PATH_TABLES, [(1, 0)]), (first, ((1, 1), (2, 2)), third))
        self.assertEqual(cut_by(PATH, PATH_TABLES, [(1, 2)]), (first, ((1, 1),), third))
        self.assertEqual(cut_by(PATH, PATH_TABLES, [(2, 1)]), (first, second, ((1, 7),)))

    def test_one_behind_the_other(self):
        first, second, third = PATH_TABLES
        self.assertEqual(cut_by(PATH, PATH_TABLES, [(1, 2), (0, 1)]), (((0, 1),), ((1, 1),), third))
        self.assertEqual(cut_by(PATH, PATH_TABLES, [(0, 1), (1, 2)]), (((0, 1), (0, 2)), ((1, 1),), third))
        self.assertEqual(cut_by(PATH, PATH_TABLES, [(0, 1), (1, 2), (0, 1)]), (((0, 1),), ((1, 1),), third))
        self.assertEqual(cut_by(PATH, PATH_TABLES, [(0, 1), (0, 1), (1, 2), (1, 2), (0, 1), (0, 1)]),
                         (((0, 1),), ((1, 1),), third))
        self.assertEqual(cut_by(PATH, PATH_TABLES, [(0, 1), (2, 1), (1, 2), (0, 1)]), (((0, 1),), ((1, 1),), ((1, 7),)))

    def test_heads_without_a_common_column(self):
        self.assertEqual(cut_by(PATH, PATH_TABLES, [(0, 2), (2, 0)]), PATH_TABLES)
        self.assertEqual(cut_by(PATH, PATH_TABLES[:2] + ((),), [(0, 2)]), ((), PATH_TABLES[1], ()))
        self.assertEqual(cut_by(PATH, PATH_TABLES[:2] + ((),), [(2, 0)]), PATH_TABLES[:2] + ((),))
        self.assertEqual(cut_by(PATH, ((),) + PATH_TABLES[1:], [(2, 0)]), ((), PATH_TABLES[1], ()))

    def test_with_a_common_column_and_an_empty_table(self):
        self.assertEqual(cut_by(PATH, PATH_TABLES[:2] + ((),), [(1, 2)]), (PATH_TABLES[0], (), ()))
        self.assertEqual(cut_by(PATH, ((),) + PATH_TABLES[1:], [(0, 1)]), ((),) + PATH_TABLES[1:])

    def test_heads_alike_and_heads_within_others(self):
        self.assertEqual(cut_by(TWINS, (((0, 0), (1, 1)), ((0, 1), (1, 1))), [(0, 1)]), (((1, 1),), ((0, 1), (1, 1))))
        self.assertEqual(cut_by(WITHIN, (((1,), (2,)), ((0, 2, 0), (0, 3, 0))), [(1, 0), (0, 1)]),
                         (((2,),), ((0, 2, 0),)))

    def test_where_there_is_no_join_tree(self):
        parted = parting_of(TRIANGLE)
        self.assertEqual(cut_by(TRIANGLE, parted, list(itertools.permutations(range(3), 2)) * 3), parted)

    def test_by_its_definition(self):
        for layout in samples.LAYOUTS + samples.drawn_layouts(60):
            for turn, tables in enumerate(samples.drawn_tables(layout, 5)):
                deeds = some_deeds(layout, turn) + some_deeds(layout, 5 - turn)
                told = cut_by(layout, tables, deeds)
                self.assertEqual(told, samples.plain_cut(layout, tables, deeds), (layout, tables, deeds))
                self.assertIs(are_tables(layout, told), True)

    def refused(self, why, *things):
        with self.assertRaises(why):
            cut_by(*things)

    def test_no_tables_ahead_of_no_deed(self):
        for tables in samples.spoiled_tables(PATH, PATH_TABLES) + ODD:
            self.refused(NoTables, PATH, tables, [])
            self.refused(NoTables, PATH, tables, [(0, 1)])
            self.refused(NoTables, PATH, tables, [(0, 0)])
            self.refused(NoTables, PATH, tables, None)

    def test_no_deed(self):
        wrong = [(0, 0), (2, 2), (0, 3), (3, 0), (-1, 0), (0, -1), (0, BIG), (-BIG, 0), (True, 0), (0, True), (False, 1),
                 (1, False), [0, 1], (0,), (), (0, 1, 2), (0, 1, 0), (0, "1"), ("0", 1), "01", 0, 1, None, True, {},
                 {0: 1}, ((0, 1),), ((0,), 1), (0, None), ((0, 1), (1, 2)), [(0, 1)]]
        for deed in wrong:
            self.refused(NoDeed, PATH, PATH_TABLES, [deed])
            self.refused(NoDeed, PATH, PATH_TABLES, [(0, 1), deed])
            self.refused(NoDeed, PATH, PATH_TABLES, [deed, (0, 1)])
            self.refused(NoDeed, PATH, PATH_TABLES, [(0, 1), (1, 2), deed, (1, 0)])
        for deeds in [((0, 1),), (), (0, 1), ((0, 1), (1, 2)), {}, {0: 1}, {(0, 1): True}, "", "01", None, 0, True]:
            self.refused(NoDeed, PATH, PATH_TABLES, deeds)
        for thing in ODD:
            if thing != []:
                self.refused(NoDeed, PATH, PATH_TABLES, thing)
            self.refused(NoDeed, PATH, PATH_TABLES, [thing])
            self.refused(NoDeed, PATH, PATH_TABLES, [(0, thing)])
        self.refused(NoDeed, ONE, ((),), [(0, 0)])


class JoinedParts(unittest.TestCase):
    def test_parts(self):
        self.assertEqual(joined_parts(PATH, PATH_TABLES), (((0, 1),), ((1, 1),), ((1, 7),)))
        self.assertEqual(joined_parts(ONE, (((2,), (3,)),)), (((2,), (3,)),))
        self.assertEqual(joined_parts(GAPPED, (((0, 1), (0, 2)), ((1, 5), (2, 6)), ((6,),))),
                         (((0, 2),), ((2, 6),), ((6,),)))

    def test_none_where_a_table_is_empty(self):
        for layout in samples.LAYOUTS:
            tables = samples.full_tables(layout, 2, 20)
            for place in range(len(tables)):
                some = tables[:place] + ((),) + tables[place + 1:]
                self.assertEqual(joined_parts(layout, some), ((),) * len(tables))

    def test_where_there_is_no_join_tree(self):
        self.assertEqual(joined_parts(TRIANGLE, parting_of(TRIANGLE)), ((), (), ()))
        same, turned = ((0, 0), (1, 1), (2, 2)), ((0, 1), (1, 0), (2, 2))
        self.assertEqual(joined_parts(TRIANGLE, (same, same, turned)), (((2, 2),),) * 3)
        for layout in (RING, RING_6, LOT_4, TAILED):
            self.assertEqual(joined_parts(layout, parting_of(layout)), ((),) * len(layout[1]))

    def test_far_more_joined_rows_than_can_be_written_out(self):
        for layout in (APART, STAR, RING, RING_6, TRIANGLE):
            tables = samples.full_tables(layout, 10)
            self.assertEqual(joined_parts(layout, tables), tables)

    def test_held_against_all_joined_rows(self):
        less = 0
        for layout, tables in samples.tables_near(samples.small_layouts() + samples.wide_layouts(60), 2):
            told = joined_parts(layout, tables)
            self.assertEqual(told, samples.plain_parts(layout, tables), (layout, tables))
            self.assertIs(are_tables(layout, told), True)
            less += told != tables and () not in told
        self.assertGreater(less, 300)

    def test_refused(self):
        for layout in (ONE, LINE, TRIANGLE):
            for thing in samples.spoiled_tables(layout, samples.full_tables(layout, 2, 5)):
                with self.assertRaises(NoTables):
                    joined_parts(layout, thing)
        for thing in ODD:
            with self.assertRaises(NoTables):
                joined_parts(LINE, thing)


class DeedsFor(unittest.TestCase):
    def test_told_deeds(self):
        self.assertEqual(deeds_for(ONE), [])
        self.assertEqual(deeds_for((7, ((2, 4, 6),))), [])
        self.assertEqual(deeds_for(LINE), [(1, 0), (0, 1)])
        self.assertEqual(deeds_for(PATH), [(1, 0), (2, 1), (1, 2), (0, 1)])
        self.assertEqual(deeds_for(TWINS), [(1, 0), (0, 1)])
        self.assertEqual(deeds_for(COVERED), [(3, 0), (3, 1), (3, 2), (2, 3), (1, 3), (0, 3)])

    def test_for_the_told_steps(self):
        for layout in samples.small_layouts() + samples.wide_layouts(120):
            steps = steps_for(layout)
            if len(steps) == len(layout[1]) - 1:
                due = [(holder, ear) for ear, holder in steps] + [(ear, holder) for ear, holder in steps[::-1]]
                told = deeds_for(layout)
                self.assertIs(type(told), list)
                self.assertEqual(told, due)
                self.assertEqual(len(told), 2 * (len(layout[1]) - 1))

    def test_bound_just_where_there_is_no_join_tree(self):
        for layout in samples.small_layouts():
            if samples.has_join_tree(layout):
                deeds_for(layout)
            else:
                with self.assertRaises(Bound):
                    deeds_for(layout)
        for layout in (TRIANGLE, RING, RING_6, LOT_4, TAILED):
            with self.assertRaises(Bound):
                deeds_for(layout)

    def test_by_them_just_the_rows_in_joined_rows_are_kept(self):
        for layout in samples.small_layouts() + samples.wide_layouts(60):
            if samples.has_join_tree(layout):
                deeds = deeds_for(layout)
                for turn, tables in enumerate(samples.drawn_tables(layout, 4)):
                    due = samples.plain_parts(layout, tables)
                    self.assertEqual(cut_by(layout, tables, deeds), due, (layout, tables))
                    ahead = some_deeds(layout, turn)
                    self.assertEqual(cut_by(layout, cut_by(layout, tables, ahead), deeds), due)
                    self.assertEqual(cut_by(layout, tables, ahead + deeds + ahead), due)
                    self.assertIs(agree(layout, due), True)

    def test_heads_apart_and_an_empty_table(self):
        tables = samples.full_tables(APART, 3)
        self.assertEqual(cut_by(APART, tables, deeds_for(APART)), tables)
        for place in range(6):
            some = tables[:place] + ((),) + tables[place + 1:]
            self.assertEqual(cut_by(APART, some, deeds_for(APART)), ((),) * 6)

    def test_joined_rows_stay_the_same(self):
        for layout, tables in samples.tables_near([LINE, PATH, STAR, COVERED, WITHIN, GAPPED, ALIKE], 10):
            self.assertEqual(joined(layout, cut_by(layout, tables, deeds_for(layout))), joined(layout, tables))

    def test_the_told_list_is_new(self):
        told = deeds_for(PATH)
        told.reverse()
        told.append(None)
        self.assertEqual(deeds_for(PATH), [(1, 0), (2, 1), (1, 2), (0, 1)])
