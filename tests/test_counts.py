"""Stage 9: [91], [92], [93], [94], and of [7] that joined rows are as many as are told."""

import itertools
import unittest

from jointrees.counts import joined_at, joined_columns, many_joined, many_saying, number_of
from jointrees.errors import Bound, NoColumn, NoNumber, NoRow, NoTables, TooMany
from jointrees.tables import joined
from tests import samples
from tests.samples import (ALIKE, APART, BIG, COVERED, GAPPED, LINE, LOT_4, ODD, ONE, PATH, RING, STAR, TAILED, TRIANGLE,
                           TWINS, WITHIN)

LINE_TABLES = (((0, 1), (2, 1), (2, 4)), ((1, 5), (1, 6), (4, 4)))
LINE_ROWS = [(0, 1, 5), (0, 1, 6), (2, 1, 5), (2, 1, 6), (2, 4, 4)]
TENS = tuple((k,) for k in range(10))
# Three heads apart: as many joined rows as there are numbers of three figures.
THREE = (3, ((0,), (1,), (2,)))
BOUND = [TRIANGLE, RING, TAILED, LOT_4]
NO_NUMBERS = samples.NO_NUMBERS + [-1, -2, BIG, -BIG]


def with_join_tree(layouts):
    """Those of the layouts that have a join tree."""
    return [layout for layout in layouts if samples.has_join_tree(layout)]


TREED = with_join_tree(samples.small_layouts() + samples.wide_layouts(60))


class Counts(unittest.TestCase):
    def refused(self, why, ask, *things):
        with self.subTest(str(things)[:90]):
            with self.assertRaises(why):
                ask(*things)

    def refused_first(self, ask, good, wrong):
        """Bound ahead of NoTables, and NoTables ahead of what is wrong with the rest."""
        for layout in BOUND:
            tables = samples.full_tables(layout, 2)
            self.refused(Bound, ask, layout, tables, *good)
            self.refused(Bound, ask, layout, tables, *wrong)
            self.refused(Bound, ask, layout, None, *good)
            self.refused(Bound, ask, layout, (), *wrong)
        for tables in samples.spoiled_tables(LINE, LINE_TABLES) + ODD:
            self.refused(NoTables, ask, LINE, tables, *good)
            self.refused(NoTables, ask, LINE, tables, *wrong)


class ManyJoined(Counts):
    def test_many(self):
        self.assertEqual(many_joined(LINE, LINE_TABLES), 5)
        self.assertEqual(many_joined(ONE, (TENS,)), 10)
        self.assertEqual(many_joined(TWINS, (((0, 0), (1, 1)), ((1, 1), (2, 2)))), 1)
        self.assertEqual(many_joined(WITHIN, (((1,),), ((0, 1, 0), (0, 2, 0), (5, 1, 5)))), 2)
        self.assertEqual(many_joined(GAPPED, (((1, 2), (3, 2)), ((2, 3), (2, 4)), ((3,), (4,)))), 4)

    def test_none(self):
        for layout in with_join_tree(samples.LAYOUTS):
            tables = samples.full_tables(layout, 2, 20)
            for place in range(len(tables)):
                self.assertEqual(many_joined(layout, tables[:place] + ((),) + tables[place + 1:]), 0)
        self.assertEqual(many_joined(LINE, (((0, 1),), ((2, 0),))), 0)

    def test_far_beyond_what_can_be_written_out(self):
        six = (6, tuple((k,) for k in range(6)))
        self.assertEqual(many_joined(six, (TENS,) * 6), 10 ** 6)
        self.assertEqual(many_joined(APART, samples.full_tables(APART, 10)), 10 ** 7)
        star = (7, tuple((k, 6) for k in range(6)))
        self.assertEqual(many_joined(star, samples.full_tables(star, 10)), 10 ** 7)
        self.assertEqual(many_joined(star, samples.full_tables(star, 9)), 9 ** 7)
        two = (7, ((0, 1, 2), (3, 4, 5), (5, 6)))
        self.assertEqual(many_joined(two, samples.full_tables(two, 10)), 625 * 625 * 10)

    def test_by_its_definition(self):
        for layout, tables in samples.tables_near(TREED, 3):
            told = many_joined(layout, tables)
            self.assertIs(type(told), int)
            self.assertEqual(told, len(samples.plain_joined(layout, tables)), (layout, tables))

    def test_refused(self):
        self.refused_first(many_joined, (), ())


class JoinedAt(Counts):
    def test_rows_by_their_numbers(self):
        self.assertEqual([joined_at(LINE, LINE_TABLES, k) for k in range(5)], LINE_ROWS)
        self.assertEqual([number_of(LINE, LINE_TABLES, row) for row in LINE_ROWS], list(range(5)))
        self.assertEqual(joined_at(GAPPED, (((1, 2),), ((2, 3), (2, 4)), ((3,), (4,))), 1), (1, 2, 4))
        self.assertEqual(number_of(GAPPED, (((1, 2),), ((2, 3), (2, 4)), ((3,), (4,))), (1, 2, 4)), 1)

    def test_each_the_other_ones_way_back(self):
        many = 0
        for layout, tables in samples.tables_near(TREED, 2):
            rows = samples.plain_joined(layout, tables)
            for number, row in list(enumerate(rows))[:20] + list(enumerate(rows))[20::7]:
                self.assertEqual(joined_at(layout, tables, number), row, (layout, tables))
                told = number_of(layout, tables, row)
                self.assertIs(type(told), int)
                self.assertEqual(told, number, (layout, tables))
                many += 1
        self.assertGreater(many, 1000)

    def test_all_joined_rows_of_some(self):
        for layout in (LINE, PATH, STAR, COVERED, TWINS):
            tables = samples.full_tables(layout, 3, 23)
            rows = joined(layout, tables)
            self.assertEqual([joined_at(layout, tables, k) for k in range(len(rows))], rows)
            self.assertEqual([number_of(layout, tables, row) for row in rows], list(range(len(rows))))

    def test_beyond_a_thousand(self):
        seven = (7, APART[1])
        tables = samples.full_tables(seven, 10)
        for number in (0, 999, 1000, 1001, 123456, 1234567, 9999999):
            row = tuple(int(figure) for figure in str(number).zfill(7))
            self.assertEqual(joined_at(seven, tables, number), row)
            self.assertEqual(number_of(seven, tables, row), number)
        self.refused(NoNumber, joined_at, seven, tables, 10 ** 7)

    def test_no_number(self):
        for number in NO_NUMBERS + [5, 6, 10, 1000]:
            self.refused(NoNumber, joined_at, LINE, LINE_TABLES, number)
        for number in NO_NUMBERS + [0, 1]:
            self.refused(NoNumber, joined_at, LINE, ((), ()), number)
        for layout, tables in samples.tables_near(with_join_tree(samples.LAYOUTS), 3):
            many = len(samples.plain_joined(layout, tables))
            self.refused(NoNumber, joined_at, layout, tables, many)
            self.refused(NoNumber, joined_at, layout, tables, -1)

    def test_no_row(self):
        wrong = [(0, 1), (0, 1, 5, 0), (0, 1, 4), (2, 4, 5), (0, 4, 4), (5, 1, 5), (0, True, 5), (False, 1, 5), [0, 1, 5],
                 (0, 1, "5"), ("0", "1", "5"), "015", (0, 1, None), (0, 1, (5,)), ((0, 1, 5),), (0, 1, -5), (0, 1, 10),
                 (0, 1, BIG), {0: 0, 1: 1, 2: 5}, (0, 1, [5]), (10, 1, 5), (-1, 1, 5), ((0, 1), (1, 5)), (0, 1, {})]
        for row in wrong + ODD:
            self.refused(NoRow, number_of, LINE, LINE_TABLES, row)
        self.refused(NoRow, number_of, LINE, ((), ()), (0, 1, 5))
        self.refused(NoRow, number_of, GAPPED, (((1, 2),), ((2, 3), (2, 4)), ((3,), (4,))), (1, 0, 2, 0, 4))
        for row in samples.spoiled((0, 1, 5)):
            self.refused(NoRow, number_of, LINE, LINE_TABLES, row)

    def test_just_joined_rows_have_a_number(self):
        for row in itertools.product(range(7), repeat=3):
            if row in LINE_ROWS:
                self.assertEqual(number_of(LINE, LINE_TABLES, row), LINE_ROWS.index(row))
            else:
                self.refused(NoRow, number_of, LINE, LINE_TABLES, row)

    def test_refused_in_order(self):
        for wrong in (5, -1, None, True):
            self.refused_first(joined_at, (0,), (wrong,))
        for wrong in ((), None, (0, 0, 0), [0, 1, 5]):
            self.refused_first(number_of, ((0, 1, 5),), (wrong,))


class ManySaying(Counts):
    def test_of_none_some_all(self):
        self.assertEqual(many_saying(LINE, LINE_TABLES, ()), 5)
        self.assertEqual(many_saying(LINE, LINE_TABLES, ((0, 2),)), 3)
        self.assertEqual(many_saying(LINE, LINE_TABLES, ((1, 1),)), 4)
        self.assertEqual(many_saying(LINE, LINE_TABLES, ((2, 5),)), 2)
        self.assertEqual(many_saying(LINE, LINE_TABLES, ((0, 2), (2, 6))), 1)
        self.assertEqual(many_saying(LINE, LINE_TABLES, ((0, 2), (1, 4), (2, 4))), 1)
        self.assertEqual(many_saying(LINE, LINE_TABLES, ((0, 0), (1, 4), (2, 4))), 0)
        self.assertEqual(many_saying(LINE, LINE_TABLES, ((0, 9),)), 0)
        self.assertEqual(many_saying(GAPPED, (((1, 2),), ((2, 3), (2, 4)), ((3,), (4,))), ((0, 1), (4, 3))), 1)

    def test_far_beyond_what_can_be_written_out(self):
        tables = samples.full_tables(APART, 10)
        for size in range(8):
            saying = tuple((column, 9 - column) for column in range(size))
            self.assertEqual(many_saying(APART, tables, saying), 10 ** (7 - size))

    def test_by_its_definition(self):
        for layout, tables in samples.tables_near(TREED, 2):
            rows = samples.plain_joined(layout, tables)
            columns = samples.in_heads(layout)
            for size in range(len(columns) + 1):
                some = columns[size // 2:size // 2 + size]
                for number in (0, 1):
                    saying = tuple((column, number) for column in some)
                    due = [row for row in rows if samples.part(layout, row, some) == (number,) * len(some)]
                    self.assertEqual(many_saying(layout, tables, saying), len(due))
            if rows:
                saying = tuple(zip(columns, rows[-1]))
                self.assertEqual(many_saying(layout, tables, saying), 1)
                self.assertEqual(many_saying(layout, tables, saying[::2]), len(
                    [row for row in rows if row[::2] == rows[-1][::2]]))

    def test_no_saying(self):
        wrong = [((3, 0),), ((-1, 0),), ((BIG, 0),), ((0, 0), (0, 0)), ((0, 0), (0, 1)), ((1, 0), (0, 0)), ((0, 10),),
                 ((0, -1),), ((0, BIG),), ((0, -BIG),), ((0, True),), ((0, False),), ((True, 0),), ((False, 0),), [],
                 [(0, 0)], ([0, 0],), ((0,),), ((0, 0, 0),), ((),), (0, 0), (0,), ((0, "0"),), (("0", 0),), ("00",),
                 "00", "", None, 0, {}, {0: 0}, ((0, None),), ((None, 0),), ((0, (0,)),), (((0,), 0),), ((0, [0]),),
                 (([0], 0),), ((0, 0), (1, 0), (2, 0), (3, 0)), ((0, 0), None), ((0, 0), [1, 0]), ((0, 0), (1, 10)),
                 ((0, 0), (1, True)), ((0, 0), (True, 1)), ((0, {}),), (((0, 0),),)]
        for saying in wrong + [thing for thing in ODD if thing != ()]:
            self.refused(NoColumn, many_saying, LINE, LINE_TABLES, saying)
        for saying in samples.spoiled(((0, 2), (2, 6))):
            self.refused(NoColumn, many_saying, LINE, LINE_TABLES, saying)
        for column in (1, 3, 5, 7):
            self.refused(NoColumn, many_saying, GAPPED, ((), (), ()), ((column, 0),))

    def test_refused_in_order(self):
        for wrong in (((3, 0),), None, [(0, 0)], ((0, 10),)):
            self.refused_first(many_saying, ((),), (wrong,))


class JoinedColumns(Counts):
    def test_of_none_some_all(self):
        self.assertEqual(joined_columns(LINE, LINE_TABLES, ()), [()])
        self.assertEqual(joined_columns(LINE, LINE_TABLES, (0,)), [(0,), (2,)])
        self.assertEqual(joined_columns(LINE, LINE_TABLES, (1,)), [(1,), (4,)])
        self.assertEqual(joined_columns(LINE, LINE_TABLES, (2,)), [(4,), (5,), (6,)])
        self.assertEqual(joined_columns(LINE, LINE_TABLES, (0, 2)), [(0, 5), (0, 6), (2, 4), (2, 5), (2, 6)])
        self.assertEqual(joined_columns(LINE, LINE_TABLES, (0, 1, 2)), LINE_ROWS)
        self.assertEqual(joined_columns(GAPPED, (((1, 2),), ((2, 3), (2, 4)), ((3,), (4,))), (0, 4)), [(1, 3), (1, 4)])

    def test_where_there_is_no_joined_row(self):
        for columns in ((), (0,), (0, 1, 2)):
            self.assertEqual(joined_columns(LINE, (((0, 1),), ((2, 0),)), columns), [])
            self.assertEqual(joined_columns(LINE, ((), LINE_TABLES[1]), columns), [])

    def test_by_its_definition(self):
        for layout, tables in samples.tables_near(TREED, 2):
            rows = samples.plain_joined(layout, tables)
            columns = samples.in_heads(layout)
            for size in range(len(columns) + 1):
                for some in itertools.islice(itertools.combinations(columns, size), 3):
                    due = sorted({samples.part(layout, row, some) for row in rows})
                    if len(due) > 1000:
                        self.refused(TooMany, joined_columns, layout, tables, some)
                    else:
                        self.assertEqual(joined_columns(layout, tables, some), due, (layout, tables, some))

    def test_a_thousand_and_more(self):
        self.assertEqual(joined_columns(THREE, (TENS,) * 3, (0, 1, 2)), list(itertools.product(range(10), repeat=3)))
        four = (4, ((0,), (1,), (2,), (3,)))
        self.refused(TooMany, joined_columns, four, (TENS,) * 3 + (((0,), (1,)),), (0, 1, 2, 3))
        self.assertEqual(len(joined_columns(four, (TENS,) * 3 + (((0,),),), (0, 1, 2, 3))), 1000)
        two = (5, ((0, 1, 2), (3, 4)))
        tables = (samples.all_rows((0, 1, 2), 10, 501), ((0, 0), (0, 1)))
        self.refused(TooMany, joined_columns, two, tables, (0, 1, 2, 4))
        self.assertEqual(len(joined_columns(two, tables, (0, 1, 2, 3))), 501)
        self.assertEqual(len(joined_columns(two, (tables[0][:-1], tables[1]), (0, 1, 2, 4))), 1000)

    def test_a_thousand_by_unlike_rows_of_the_last_head(self):
        # Each row of the head that is left has some fifty; all together they are 1000, or two more.
        line = (6, ((0, 1, 2), (2, 3, 4)))
        tables = (samples.all_rows((0, 1, 2), 10, 500), tuple((k, l, 0) for k in range(10) for l in (0, 1)))
        self.assertEqual(len(joined_columns(line, tables, (0, 1, 2, 3))), 1000)
        more = (samples.all_rows((0, 1, 2), 10, 501), tables[1])
        self.refused(TooMany, joined_columns, line, more, (0, 1, 2, 3))
        self.assertEqual(len(joined_columns(line, more, (0, 1, 3))), 102)

    def test_where_there_are_many_more_joined_rows(self):
        tables = samples.full_tables(APART, 10)
        self.assertEqual(joined_columns(APART, tables, ()), [()])
        self.assertEqual(joined_columns(APART, tables, (3,)), list(TENS))
        self.assertEqual(joined_columns(APART, tables, (0, 3, 6)), list(itertools.product(range(10), repeat=3)))
        self.refused(TooMany, joined_columns, APART, tables, (0, 2, 3, 6))
        self.refused(TooMany, joined_columns, APART, tables, tuple(range(7)))
        star = (7, tuple((k, 6) for k in range(6)))
        full = samples.full_tables(star, 10)
        self.assertEqual(joined_columns(star, full, (0, 2, 5)), list(itertools.product(range(10), repeat=3)))
        self.refused(TooMany, joined_columns, star, full, (0, 2, 5, 6))
        same = (tuple((k, k) for k in range(10)),) * 6
        self.assertEqual(joined_columns(star, same, (0, 1, 2, 3, 4, 5)), [(k,) * 6 for k in range(10)])

    def test_rows_that_go_with_no_row_of_a_head_left_do_not_count(self):
        line = (6, ((0, 1, 2, 3), (3, 4), (4, 5)))
        tables = (samples.all_rows((0, 1, 2, 3), 10, 625), samples.all_rows((0, 1), 10), ((0, 0),))
        self.refused(TooMany, joined_columns, line, (tables[0], tables[1], samples.all_rows((0, 1), 10)), (0, 1, 2, 3, 4))
        self.assertEqual(len(joined_columns(line, tables, (0, 1, 2, 3, 4))), 625)
        gone = (((9, 9),), samples.all_rows((0, 1), 10), samples.all_rows((0, 1), 10))
        path = (4, ((0, 1), (1, 2), (2, 3)))
        self.assertEqual(len(joined_columns(path, gone, (0, 1, 2, 3))), 100)

    def test_no_column(self):
        wrong = [(3,), (-1,), (0, 3), (BIG,), (-BIG,), (0, 0), (1, 0), (0, 2, 1), (0, 1, 1), [], [0], [0, 1], (True,),
                 (False,), (0, True), (False, 1), ("0",), "0", "", None, 0, {}, {0: 0}, ((0,),), ((),), (None,), ([0],),
                 (0, 1, 2, 3), (0, (1,)), ({},)]
        for columns in wrong + [thing for thing in ODD if thing not in ((), (0,))]:
            self.refused(NoColumn, joined_columns, LINE, LINE_TABLES, columns)
        for columns in samples.spoiled((0, 2)):
            self.refused(NoColumn, joined_columns, LINE, LINE_TABLES, columns)
        for column in (1, 3, 5, 7):
            self.refused(NoColumn, joined_columns, GAPPED, ((), (), ()), (column,))
        # Ahead of TooMany.
        self.refused(NoColumn, joined_columns, APART, samples.full_tables(APART, 10), tuple(range(8)))

    def test_refused_in_order(self):
        for wrong in ((3,), None, [0], (1, 0)):
            self.refused_first(joined_columns, ((0,),), (wrong,))

    def test_the_told_list_is_new(self):
        told = joined_columns(LINE, LINE_TABLES, (0,))
        self.assertIs(type(told), list)
        self.assertEqual({type(row) for row in told}, {tuple})
        told.append(None)
        told.reverse()
        self.assertEqual(joined_columns(LINE, LINE_TABLES, (0,)), [(0,), (2,)])

    def test_six_heads_alike(self):
        tables = samples.full_tables(ALIKE, 10)
        self.assertEqual(joined_columns(ALIKE, tables, tuple(range(7))), list(tables[0]))
        self.assertEqual(many_joined(ALIKE, tables), 625)
