"""Stage 10: [101]."""

import itertools
import unittest

from jointrees.dear import are_prices, cheapest, price_of
from jointrees.errors import Bound, NoNumber, NoRow, NoTables
from tests import samples
from tests.samples import (ALIKE, APART, BIG, GAPPED, LINE, LOT_4, ODD, ONE, PATH, RING, STAR, TAILED, TRIANGLE, TWINS,
                           WITHIN)

MOST = 10 ** 12
TABLES = (((0, 1), (2, 1), (2, 4)), ((1, 5), (1, 6), (4, 4)))
PRICES = ((5, 3, 0), (2, 1, 7))
BOUND = [TRIANGLE, RING, TAILED, LOT_4]


class Refused(unittest.TestCase):
    def refused(self, why, ask, *things):
        with self.subTest(str(things)[:90]):
            with self.assertRaises(why):
                ask(*things)


class ArePrices(Refused):
    def check(self, layout, tables, due, things):
        for thing in things:
            with self.subTest(str(thing)[:80]):
                self.assertIs(are_prices(layout, tables, thing), due)

    def test_prices(self):
        self.check(LINE, TABLES, True, [PRICES, ((0, 0, 0), (0, 0, 0)), ((MOST,) * 3, (MOST,) * 3), ((0, MOST, 1),) * 2])
        self.check(LINE, ((), ()), True, [((), ())])
        self.check(LINE, (TABLES[0], ()), True, [((1, 2, 3), ())])
        self.check(ONE, (((3,),),), True, [((0,),), ((MOST,),)])

    def test_numbers_that_are_not_let(self):
        for number in [MOST + 1, MOST * 10, -1, -MOST, BIG, -BIG, True, False, None, "0", "", (), (0,), [], [0], {}]:
            for place in range(3):
                costs = (0,) * place + (number,) + (0,) * (2 - place)
                self.check(LINE, TABLES, False, [(costs, (0, 0, 0)), ((0, 0, 0), costs)])

    def test_a_price_more_or_fewer(self):
        self.check(LINE, TABLES, False, [((5, 3), (2, 1, 7)), ((5, 3, 0, 0), (2, 1, 7)), ((5, 3, 0), (2, 1)), ((), ()),
                                         ((5, 3, 0), (2, 1, 7, 0)), ((5, 3, 0), ()), ((), (2, 1, 7)), ((5, 3, 0),), (),
                                         PRICES + ((),), PRICES + (PRICES[0],), (5, 3, 0, 2, 1, 7)])
        self.check(LINE, (TABLES[0], ()), False, [((1, 2, 3), (1,)), ((1, 2, 3),), ((1, 2), ())])

    def test_lists(self):
        self.check(LINE, TABLES, False, [list(PRICES), [list(costs) for costs in PRICES], ([5, 3, 0], (2, 1, 7)),
                                         ((5, 3, 0), [2, 1, 7])])
        self.check(LINE, ((), ()), False, [[(), ()], ([], ()), ((), []), [], [[], []]])

    def test_things_of_other_kinds_within_and_without(self):
        self.check(LINE, TABLES, False, ODD)
        self.check(LINE, TABLES, False, [((5, 3, 0), thing) for thing in ODD])
        self.check(LINE, TABLES, False, [(thing, (5, 3, 0)) for thing in ODD])
        self.check(LINE, TABLES, False, [(PRICES[0], (0, 0, thing)) for thing in ODD if thing not in (7, 8)])
        self.check(LINE, TABLES, False, samples.spoiled(PRICES))
        self.check(LINE, TABLES, False, samples.spoiled(PRICES[0]))

    def test_of_what_is_no_tables(self):
        for tables in samples.spoiled_tables(LINE, TABLES) + ODD:
            self.refused(NoTables, are_prices, LINE, tables, PRICES)
            self.refused(NoTables, are_prices, LINE, tables, None)

    def test_where_there_is_no_join_tree(self):
        tables = samples.full_tables(TRIANGLE, 2)
        self.check(TRIANGLE, tables, True, [((1, 2, 3, 4),) * 3])
        self.check(TRIANGLE, tables, False, [((1, 2, 3, 4),) * 2])


class PriceOf(Refused):
    def test_prices(self):
        self.assertEqual(price_of(LINE, TABLES, PRICES, (0, 1, 5)), 7)
        self.assertEqual(price_of(LINE, TABLES, PRICES, (2, 1, 6)), 4)
        self.assertEqual(price_of(LINE, TABLES, PRICES, (2, 4, 4)), 7)
        self.assertEqual(price_of(GAPPED, (((1, 2),), ((2, 3), (2, 4)), ((3,), (4,))), ((1,), (10, 20), (100, 200)),
                                  (1, 2, 4)), 221)
        self.assertEqual(price_of(TRIANGLE, (((0, 1),), ((1, 2),), ((0, 2),)), ((1,), (2,), (MOST,)), (0, 1, 2)), MOST + 3)

    def test_by_its_definition(self):
        for layout, tables in samples.tables_near(samples.small_layouts(), 2):
            prices = samples.drawn_prices(tables)
            for row in samples.plain_joined(layout, tables)[:10]:
                told = price_of(layout, tables, prices, row)
                self.assertIs(type(told), int)
                self.assertEqual(told, samples.plain_price(layout, tables, prices, row))

    def test_refused_with_no_tables_then_no_number_then_no_row(self):
        for tables in samples.spoiled_tables(LINE, TABLES) + ODD:
            self.refused(NoTables, price_of, LINE, tables, PRICES, (0, 1, 5))
            self.refused(NoTables, price_of, LINE, tables, None, None)
        for prices in samples.spoiled(PRICES) + ODD + [((5, 3), (2, 1, 7)), ((5, 3, MOST + 1), (2, 1, 7))]:
            self.refused(NoNumber, price_of, LINE, TABLES, prices, (0, 1, 5))
            self.refused(NoNumber, price_of, LINE, TABLES, prices, None)
            self.refused(NoNumber, price_of, LINE, TABLES, prices, (0, 1))

    def test_no_row(self):
        wrong = [(0, 1), (0, 1, 5, 0), (0, 1, 4), (2, 4, 5), (0, True, 5), (False, 1, 5), [0, 1, 5], "015", (0, 1, None),
                 (0, 1, -5), (0, 1, 10), (0, 1, "5"), ((0, 1, 5),), (0, 4, 4), (0, 1, (5,)), ((0, 1), (1, 5))]
        for row in wrong + ODD + samples.spoiled((0, 1, 5)):
            self.refused(NoRow, price_of, LINE, TABLES, PRICES, row)
        self.refused(NoRow, price_of, LINE, ((), ()), ((), ()), (0, 1, 5))


class Cheapest(Refused):
    def test_the_cheapest_one(self):
        self.assertEqual(cheapest(LINE, TABLES, PRICES), (4, (2, 1, 6)))
        self.assertEqual(cheapest(LINE, TABLES, ((5, 3, 0), (2, 1, 3))), (3, (2, 4, 4)))
        self.assertEqual(cheapest(ONE, (((3,), (7,)),), ((9, 8),)), (8, (7,)))
        self.assertEqual(cheapest(GAPPED, (((1, 2),), ((2, 3), (2, 4)), ((3,), (4,))), ((1,), (10, 5), (1, 7))),
                         (12, (1, 2, 3)))

    def test_a_row_that_is_cheap_alone_and_joined_with_none(self):
        tables = (((0, 1), (0, 2)), ((1, 1), (1, 2), (3, 3)))
        self.assertEqual(cheapest(LINE, tables, ((9, 0), (8, 9, 0))), (17, (0, 1, 1)))

    def test_of_several_alike_the_first_one(self):
        self.assertEqual(cheapest(LINE, TABLES, ((0, 0, 0), (0, 0, 0))), (0, (0, 1, 5)))
        self.assertEqual(cheapest(LINE, TABLES, ((1, 0, 0), (0, 0, 0))), (0, (2, 1, 5)))
        self.assertEqual(cheapest(LINE, TABLES, ((1, 1, 0), (3, 1, 2))), (2, (0, 1, 6)))
        layout = (4, ((2, 3), (0, 3), (1, 2)))
        tables = samples.full_tables(layout, 3)
        self.assertEqual(cheapest(layout, tables, ((7,) * 9,) * 3), (21, (0, 0, 0, 0)))
        # Whichever of 2 and 3 is one more makes up for the other: the first one has the least 0, then 1, then 2.
        costs = tuple(9 - a - b for a, b in tables[0])
        self.assertEqual(cheapest(layout, tables, (costs, (0,) * 9, (0,) * 9)), (5, (0, 0, 2, 2)))
        self.assertEqual(cheapest(layout, tables, (tuple(4 - min(a + b, 2) for a, b in tables[0]), (0,) * 9, (0,) * 9)),
                         (2, (0, 0, 0, 2)))

    def test_none(self):
        for layout in (ONE, LINE, PATH, STAR, APART):
            tables = samples.full_tables(layout, 2)
            prices = tuple((1,) * len(table) for table in tables)
            for place in range(len(tables)):
                none = cheapest(layout, tables[:place] + ((),) + tables[place + 1:],
                                prices[:place] + ((),) + prices[place + 1:])
                self.assertIsNone(none)
        self.assertIsNone(cheapest(LINE, (((0, 1),), ((2, 0),)), ((5,), (6,))))

    def test_by_its_definition(self):
        seen = set()
        for layout, tables in samples.tables_near(samples.small_layouts() + samples.wide_layouts(60), 3):
            if samples.has_join_tree(layout):
                prices = samples.drawn_prices(tables)
                due = samples.plain_cheapest(layout, tables, prices)
                told = cheapest(layout, tables, prices)
                self.assertEqual(told, due, (layout, tables, prices))
                seen.add(due is None)
                if told is not None:
                    self.assertIs(type(told), tuple)
                    self.assertEqual(price_of(layout, tables, prices, told[1]), told[0])
        self.assertEqual(seen, {True, False})

    def test_all_alike(self):
        for layout, tables in samples.tables_near([LINE, PATH, STAR, TWINS, WITHIN, ALIKE, APART], 6):
            for price in (0, 1, MOST):
                prices = tuple((price,) * len(table) for table in tables)
                rows = samples.plain_joined(layout, tables)
                due = (price * len(tables), rows[0]) if rows else None
                self.assertEqual(cheapest(layout, tables, prices), due)

    def test_far_more_joined_rows_than_can_be_written_out(self):
        star = (7, tuple((k, 6) for k in range(6)))
        tables = samples.full_tables(star, 10)
        self.assertEqual(cheapest(star, tables, ((MOST,) * 100,) * 6), (6 * MOST, (0,) * 7))
        costs = tuple(MOST - 10 * a - b for a, b in tables[0])
        self.assertEqual(cheapest(star, tables, (costs,) * 6), (6 * (MOST - 99), (9,) * 7))
        full = samples.full_tables(APART, 10)
        costs = tuple(tuple(abs(sum(row) - 5) for row in table) for table in full)
        self.assertEqual(cheapest(APART, full, costs), (0, (5, 5, 5, 5, 5, 0, 5)))
        self.assertEqual(cheapest(APART, full, tuple(tuple(0 for row in table) for table in full)), (0, (0,) * 7))

    def test_refused_with_no_tables_then_no_number_then_bound(self):
        for tables in samples.spoiled_tables(LINE, TABLES) + ODD:
            self.refused(NoTables, cheapest, LINE, tables, PRICES)
            self.refused(NoTables, cheapest, LINE, tables, None)
        for prices in samples.spoiled(PRICES) + ODD:
            self.refused(NoNumber, cheapest, LINE, TABLES, prices)
        for layout in BOUND:
            tables = samples.full_tables(layout, 2)
            prices = tuple((1,) * len(table) for table in tables)
            self.refused(NoTables, cheapest, layout, tables[:-1], prices)
            self.refused(NoTables, cheapest, layout, None, None)
            self.refused(NoNumber, cheapest, layout, tables, prices[:-1])
            self.refused(NoNumber, cheapest, layout, tables, None)
            self.refused(Bound, cheapest, layout, tables, prices)
            none = ((),) * len(tables)
            self.refused(Bound, cheapest, layout, none, none)

    def test_bound_just_where_there_is_no_join_tree(self):
        for layout in itertools.islice(samples.small_layouts(), 0, None, 3):
            none = ((),) * len(layout[1])
            if samples.has_join_tree(layout):
                self.assertIsNone(cheapest(layout, none, none))
            else:
                self.refused(Bound, cheapest, layout, none, none)
