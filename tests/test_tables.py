"""Stage 7: [71], [72], [73], of [2] that truths are no numbers, and of [7] what agreeing tables come to."""

import itertools
import unittest

from jointrees.errors import NoColumn, NoHead, NoTables, TooMany
from jointrees.layouts import common
from jointrees.tables import agree, are_tables, columns_of, joined
from jointrees.trees import first_join_tree
from tests import samples
from tests.samples import (ALIKE, APART, BIG, COVERED, GAPPED, LINE, LOT_4, ODD, ONE, PATH, RING, STAR, TRIANGLE, TWINS,
                           WITHIN)

WIDE = (4, ((0, 1, 2, 3), (1, 2, 3), (0, 1, 2, 3)))
LINE_TABLES = (((0, 1), (2, 1)), ((1, 5), (4, 4)))


class AreTables(unittest.TestCase):
    def check(self, layout, due, things):
        for thing in things:
            with self.subTest(str(thing)[:80]):
                self.assertIs(are_tables(layout, thing), due)

    def test_tables(self):
        self.check(ONE, True, [((),), (((0,),),), (((9,),),), (((0,), (9,)),), (tuple((k,) for k in range(10)),)])
        self.check(LINE, True, [((), ()), LINE_TABLES, (((0, 1),), ()), ((), ((9, 9),))])
        self.check(WITHIN, True, [(((3,),), ((0, 0, 0), (0, 0, 1), (0, 1, 0), (9, 0, 0)))])
        self.check(GAPPED, True, [(((1, 2),), ((3, 4),), ((5,),))])
        self.check(ALIKE, True, [((),) * 6, (((0,) * 7,),) * 6, (((0,) * 7, (9,) * 7),) * 6])

    def test_rows_as_many_as_may_be_and_one_more(self):
        for layout in (WIDE, ALIKE):
            for place, head in enumerate(layout[1]):
                for most, due in ((624, True), (625, True), (626, False), (627, False)):
                    tables = ((),) * place + (samples.all_rows(head, 10, most),) + ((),) * (len(layout[1]) - place - 1)
                    self.check(layout, due, [tables])

    def test_a_row_twice_or_rows_that_do_not_rise(self):
        for rows in (((0, 1), (0, 1)), ((0, 1), (0, 0)), ((1, 0), (0, 9)), ((0, 0), (0, 2), (0, 1)),
                     ((0, 0), (0, 1), (0, 1)), ((0, 1), (0, 1), (0, 2))):
            self.check(LINE, False, [(rows, ()), ((), rows), (rows, ((1, 1),)), (((1, 1),), rows)])

    def test_a_row_longer_or_shorter_than_its_head(self):
        for row in ((), (0,), (0, 1, 2), (0,) * 7):
            self.check(LINE, False, [((row,), ()), ((), (row,)), (((0, 0), row), ()), ((row, (9, 9)), ()),
                                     ((), ((0, 0), row))])
        self.check(WITHIN, False, [(((0, 0, 0),), ((0,),)), ((), ((0,),)), (((0, 0, 0),), ())])

    def test_numbers_that_are_not_let(self):
        for number in [10, 11, -1, -2, BIG, -BIG, True, False, None, "0", "", (), (0,), [], [0], {}]:
            for row in ((number, 0), (0, number), (number, number)):
                self.check(LINE, False, [((row,), ()), ((), (row,)), (((0, 0), row), ()), ((), ((0, 0), row))])

    def test_a_table_more_or_fewer(self):
        self.check(LINE, False, [(), ((),), ((), (), ()), LINE_TABLES + ((),), LINE_TABLES[:1], LINE_TABLES * 2])
        self.check(ONE, False, [(), ((), ())])

    def test_lists(self):
        self.check(LINE, False, [[(), ()], list(LINE_TABLES), ([], ()), ((), []), ([(0, 1)], ()), (([0, 1],), ()),
                                 ((), ([0, 1],)), (((0, 0), [0, 1]), ()), ((), [(0, 1)])])

    def test_wrong_at_any_place(self):
        for layout in (ONE, LINE, WITHIN, STAR, TRIANGLE, ALIKE):
            tables = samples.full_tables(layout, 2, 5)
            self.check(layout, True, [tables])
            self.check(layout, False, samples.spoiled_tables(layout, tables))

    def test_things_of_other_kinds_within_and_without(self):
        for layout in (ONE, LINE, TWINS):
            many = len(layout[1])
            self.check(layout, False, [thing for thing in ODD if thing != ((),) or layout != ONE])
            self.check(layout, False, [(thing,) * many for thing in ODD if thing != ()])
            self.check(layout, False, [((thing,),) * many for thing in ODD if thing != (0,) or layout != ONE])
        for layout, tables in ((ONE, (((0,), (9,)),)), (LINE, LINE_TABLES)):
            self.check(layout, False, [thing for thing in samples.spoiled(tables) if not plain_are_tables(layout, thing)])
            self.check(layout, True, [thing for thing in samples.spoiled(tables) if plain_are_tables(layout, thing)])

    def test_by_their_definition(self):
        rows = [row for size in (0, 1, 2) for row in itertools.product((0, 9, 10), repeat=size)]
        lists = [tuple(some) for size in (0, 1, 2) for some in itertools.product(rows, repeat=size)]
        for layout in (ONE, (2, ((1,),)), (2, ((0, 1),))):
            self.check(layout, True, [(table,) for table in lists if plain_are_tables(layout, (table,))])
            self.check(layout, False, [(table,) for table in lists if not plain_are_tables(layout, (table,))])


def plain_are_tables(layout, thing):
    """Whether a thing is tables, by 71."""
    if type(thing) is not tuple or len(thing) != len(layout[1]):
        return False
    for head, table in zip(layout[1], thing):
        if type(table) is not tuple or len(table) > 625:
            return False
        for row in table:
            if type(row) is not tuple or len(row) != len(head):
                return False
            if not all(type(number) is int and number in range(10) for number in row):
                return False
        if list(table) != sorted(set(table)):
            return False
    return True


class ColumnsOf(unittest.TestCase):
    def test_all_some_none(self):
        tables = (((0, 1), (2, 1), (2, 3)), ((1, 5), (4, 4)))
        self.assertEqual(columns_of(LINE, tables, 0, (0, 1)), ((0, 1), (2, 1), (2, 3)))
        self.assertEqual(columns_of(LINE, tables, 0, (0,)), ((0,), (2,)))
        self.assertEqual(columns_of(LINE, tables, 0, (1,)), ((1,), (3,)))
        self.assertEqual(columns_of(LINE, tables, 1, (2,)), ((4,), (5,)))
        self.assertEqual(columns_of(LINE, tables, 1, ()), ((),))

    def test_of_a_table_without_rows(self):
        for columns in ((), (0,), (1,), (0, 1)):
            self.assertEqual(columns_of(LINE, ((), ((1, 5),)), 0, columns), ())

    def test_rising_though_the_rows_rise_otherwise(self):
        self.assertEqual(columns_of(ONE, (((3,), (5,)),), 0, (0,)), ((3,), (5,)))
        self.assertEqual(columns_of((3, ((0, 1, 2),)), (((0, 9, 1), (1, 0, 2), (2, 0, 1)),), 0, (1, 2)),
                         ((0, 1), (0, 2), (9, 1)))

    def test_by_its_definition(self):
        for layout, tables in samples.tables_near(samples.LAYOUTS, 2):
            for number, head in enumerate(layout[1]):
                for size in range(len(head) + 1):
                    for columns in itertools.combinations(head, size):
                        due = {tuple(row[head.index(c)] for c in columns) for row in tables[number]}
                        told = columns_of(layout, tables, number, columns)
                        self.assertIs(type(told), tuple)
                        self.assertEqual(told, tuple(sorted(due)))

    def refused(self, why, *things):
        with self.assertRaises(why):
            columns_of(*things)

    def test_no_tables_ahead_of_no_head_ahead_of_no_column(self):
        for tables in samples.spoiled_tables(LINE, LINE_TABLES) + ODD:
            self.refused(NoTables, LINE, tables, 0, (0,))
            self.refused(NoTables, LINE, tables, 2, (0,))
            self.refused(NoTables, LINE, tables, None, None)
        for head in samples.NO_NUMBERS + [2, 3, -1, -2, BIG, -BIG]:
            self.refused(NoHead, LINE, LINE_TABLES, head, (0,))
            self.refused(NoHead, LINE, LINE_TABLES, head, None)
            self.refused(NoHead, LINE, LINE_TABLES, head, (7,))

    def test_no_column(self):
        wrong = [(2,), (0, 2), (2, 0), (1, 0), (0, 0), (0, 1, 1), (0, 0, 1), (0, 1, 2), (3,), (-1,), (-2, -1), (BIG,),
                 (-BIG, 0), [], [0], [0, 1], (True,), (False,), (False, True), (0, True), (False, 1), (None,), ("0",),
                 "0", "", 0, 1, None, {}, {0: 1}, ((0,),), ((),), (0, (1,)), (0, [1]), (0, None), tuple(range(24999))]
        for columns in wrong + [thing for thing in ODD if thing not in ((), (0,))]:
            self.refused(NoColumn, LINE, LINE_TABLES, 0, columns)
        self.refused(NoColumn, LINE, LINE_TABLES, 1, (0,))
        self.refused(NoColumn, GAPPED, ((), (), ()), 2, (3,))


class Agree(unittest.TestCase):
    def check(self, layout, due, *listed):
        for tables in listed:
            with self.subTest(tables):
                self.assertIs(agree(layout, tables), due)

    def test_true_or_false(self):
        self.check(LINE, True, (((0, 1),), ((1, 2),)), (((0, 1), (0, 2)), ((1, 5), (2, 5))), ((), ()),
                   (((0, 1), (3, 1)), ((1, 0), (1, 9))))
        self.check(LINE, False, LINE_TABLES, (((0, 1),), ((2, 2),)), (((0, 1), (0, 2)), ((1, 5),)),
                   (((0, 1),), ((1, 5), (2, 5))), ((), ((0, 0),)), (((0, 0),), ()))

    def test_heads_without_a_common_column(self):
        apart = (2, ((0,), (1,)))
        self.check(apart, True, ((), ()), (((3,),), ((4,), (5,))))
        self.check(apart, False, (((3,),), ()), ((), ((3,),)))
        self.check(APART, False, ((),) + samples.full_tables(APART, 2)[1:], samples.full_tables(APART, 2)[:5] + ((),))
        self.check(APART, True, samples.full_tables(APART, 2), ((),) * 6)

    def test_heads_alike(self):
        self.check(TWINS, True, (((0, 1),), ((0, 1),)), ((), ()), (((0, 1), (1, 0)), ((0, 1), (1, 0))))
        self.check(TWINS, False, (((0, 1),), ((1, 0),)), (((0, 0), (1, 1)), ((0, 1), (1, 0))), (((0, 0),), ()),
                   (((0, 0), (0, 1)), ((0, 0),)))

    def test_a_head_within_another_one(self):
        self.check(WITHIN, True, (((3,),), ((0, 3, 0), (1, 3, 0))))
        self.check(WITHIN, False, (((3,), (4,)), ((0, 3, 0),)), (((3,),), ((0, 3, 0), (0, 4, 0))))

    def test_each_two_of_them(self):
        good = (((0, 0),),) * 6
        ring = samples.RING_6
        self.check(ring, True, good)
        for place in range(6):
            for other in (((0, 0), (5, 5)), ((0, 0), (0, 1)), ((0, 0), (1, 0)), ((9, 9),), ()):
                self.check(ring, False, good[:place] + (other,) + good[place + 1:])

    def test_by_its_definition(self):
        seen = set()
        for layout, tables in samples.tables_near(samples.small_layouts(), 2):
            for some in (tables, samples.plain_parts(layout, tables)):
                self.assertIs(agree(layout, some), samples.plain_agree(layout, some), (layout, some))
                seen.add(agree(layout, some))
        self.assertEqual(seen, {True, False})

    def test_refused(self):
        for tables in samples.spoiled_tables(LINE, LINE_TABLES) + ODD:
            with self.assertRaises(NoTables):
                agree(LINE, tables)

    def test_along_a_join_tree_tables_agree_just_where_each_row_is_joined(self):
        seen = set()
        for layout, tables in samples.tables_near(samples.small_layouts(), 2):
            if first_join_tree(layout) is not None:
                parts = samples.plain_parts(layout, tables)
                for some in (tables, parts):
                    if () not in some:
                        due = samples.plain_parts(layout, some) == some
                        self.assertIs(agree(layout, some), due)
                        seen.add(due)
        self.assertEqual(seen, {True, False})


class Joined(unittest.TestCase):
    def test_rows(self):
        self.assertEqual(joined(LINE, LINE_TABLES), [(0, 1, 5), (2, 1, 5)])
        self.assertEqual(joined(ONE, (((3,), (7,)),)), [(3,), (7,)])
        self.assertEqual(joined(TRIANGLE, (((0, 1),), ((1, 2),), ((0, 2), (0, 3)))), [(0, 1, 2)])
        self.assertEqual(joined(TWINS, (((0, 1), (1, 1)), ((1, 0), (1, 1)))), [(1, 1)])
        self.assertEqual(joined(TRIANGLE, (((0, 1), (1, 0)), ((0, 1), (1, 0)), ((0, 1), (1, 0)))), [])

    def test_rising_whichever_head_is_first(self):
        layout = (4, ((3,), (2, 3), (0, 1)))
        tables = (((0,), (1,)), ((0, 1), (1, 0)), ((0, 5), (4, 0)))
        self.assertEqual(joined(layout, tables), [(0, 5, 0, 1), (0, 5, 1, 0), (4, 0, 0, 1), (4, 0, 1, 0)])

    def test_a_column_in_no_head_has_no_number(self):
        self.assertEqual(joined(GAPPED, (((1, 2),), ((2, 3), (2, 4)), ((3,), (4,)))), [(1, 2, 3), (1, 2, 4)])
        self.assertEqual(joined((7, ((6,),)), (((4,), (8,)),)), [(4,), (8,)])

    def test_tables_of_which_one_is_empty(self):
        for layout in samples.LAYOUTS:
            tables = samples.full_tables(layout, 2, 20)
            for place in range(len(tables)):
                self.assertEqual(joined(layout, tables[:place] + ((),) + tables[place + 1:]), [])
            self.assertEqual(joined(layout, ((),) * len(tables)), [])

    def test_a_thousand_and_one_more(self):
        three = (3, ((0,), (1,), (2,)))
        due = list(itertools.product(range(10), repeat=3))
        self.assertEqual(joined(three, samples.full_tables(three, 10)), due)
        two = (5, ((0, 1, 2), (3, 4)))
        few = ((0, 0), (0, 1))
        self.assertEqual(len(joined(two, (samples.all_rows((0, 1, 2), 10, 500), few))), 1000)
        with self.assertRaises(TooMany):
            joined(two, (samples.all_rows((0, 1, 2), 10, 501), few))
        # Seven times eleven times thirteen are 1001.
        pairs = (6, ((0, 1), (2, 3), (4, 5)))
        tables = tuple(samples.all_rows((0, 1), 10, many) for many in (7, 11, 13))
        with self.assertRaises(TooMany):
            joined(pairs, tables)
        self.assertEqual(len(joined(pairs, tables[:2] + (tables[2][:-1],))), 924)

    def test_many_more_than_that(self):
        for layout in (APART, STAR, RING, samples.RING_6, LOT_4, PATH):
            with self.assertRaises(TooMany):
                joined(layout, samples.full_tables(layout, 10))

    def test_a_thousand_where_there_is_no_join_tree(self):
        tens = samples.all_rows((0, 1), 10)
        self.assertEqual(len(joined(TRIANGLE, (tens,) * 3)), 1000)
        more = (4, ((0, 1), (1, 2), (0, 2), (3,)))
        self.assertEqual(len(joined(more, (tens,) * 3 + (((5,),),))), 1000)
        with self.assertRaises(TooMany):
            joined(more, (tens,) * 3 + (((5,), (6,)),))
        mixed = (tens, tuple((k, l) for k, l in tens if (k, l) != (4, 4)), tens)
        self.assertEqual(len(joined(TRIANGLE, mixed)), 990)
        with self.assertRaises(TooMany):
            joined(more, mixed + (((5,), (6,)),))

    def test_by_its_definition(self):
        many = 0
        for layout, tables in samples.tables_near(samples.small_layouts() + samples.wide_layouts(60), 3):
            due = samples.plain_joined(layout, tables)
            if len(due) > 1000:
                with self.assertRaises(TooMany):
                    joined(layout, tables)
            else:
                self.assertEqual(joined(layout, tables), due, (layout, tables))
                many += len(due)
        self.assertGreater(many, 5000)

    def test_refused(self):
        for layout in (ONE, LINE, TRIANGLE):
            tables = samples.full_tables(layout, 2, 5)
            for thing in samples.spoiled_tables(layout, tables):
                with self.assertRaises(NoTables):
                    joined(layout, thing)
        for thing in ODD:
            with self.assertRaises(NoTables):
                joined(LINE, thing)

    def test_the_told_list_is_new_and_of_tuples(self):
        told = joined(LINE, LINE_TABLES)
        self.assertIs(type(told), list)
        self.assertEqual({type(row) for row in told}, {tuple})
        told.append(None)
        told.reverse()
        self.assertEqual(joined(LINE, LINE_TABLES), [(0, 1, 5), (2, 1, 5)])

    def test_common_columns_tell_what_is_joined(self):
        for layout, tables in samples.tables_near([LINE, TWINS, WITHIN], 20):
            shared = common(layout, 0, 1)
            one, other = layout[1]
            due = {row + there for row in tables[0] for there in tables[1]
                   if all(row[one.index(c)] == there[other.index(c)] for c in shared)}
            self.assertEqual(len(joined(layout, tables)), len(due))

    def test_covered(self):
        tables = (((0, 1),), ((1, 2),), ((0, 2),), ((0, 1, 2), (0, 1, 3)))
        self.assertEqual(joined(COVERED, tables), [(0, 1, 2)])
