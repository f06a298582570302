"""Stage 10: [102], and of [7] that no joined row costs less than a paper shows, and one just so much."""

import unittest

from jointrees.dear import cheapest, price_of
from jointrees.errors import Bound, NoNumber, NoTables
from jointrees.papers import paper_shows, price_paper
from jointrees.tables import joined
from jointrees.trees import is_join_tree
from tests import samples
from tests.samples import (ALIKE, APART, BIG, COVERED, GAPPED, LINE, LOT_4, ODD, ONE, PATH, RING, STAR, TAILED, TRIANGLE,
                           TWINS, WITHIN)

MOST = 10 ** 12
TABLES = (((0, 1), (2, 1), (2, 4)), ((1, 5), (1, 6), (4, 4)))
PRICES = ((5, 3, 0), (2, 1, 7))
TREE = ((0, 1),)
PLAIN = (TREE, ((),))
PAPER = (TREE, ((((1,), 2), ((4,), 5)),))
BOUND = [TRIANGLE, RING, TAILED, LOT_4]


class PaperShows(unittest.TestCase):
    def check(self, due, *papers):
        for paper in papers:
            with self.subTest(str(paper)[:90]):
                self.assertEqual(paper_shows(LINE, TABLES, PRICES, paper), due)

    def moved(self, *moves):
        return (TREE, (moves,))

    def test_without_moves_the_least_ones_together(self):
        self.check(1, PLAIN)
        self.assertEqual(paper_shows(ONE, (((3,), (7,)),), ((9, 8),), ((), ())), 8)
        prices = ((4, 5),) * 5 + ((9, 7, 6, 8),)
        paper = (tuple((0, k) for k in range(1, 6)), ((),) * 5)
        self.assertEqual(paper_shows(APART, samples.full_tables(APART, 2), prices, paper), 26)

    def test_the_lesser_head_costs_so_much_more_the_greater_one_so_much_less(self):
        # The rows of the lesser head cost 7, 5, 0 then, those of the greater one 0, -1, 7.
        self.check(-1, self.moved(((1,), 2)))
        # 4, 2, 0 and 3, 2, 7.
        self.check(2, self.moved(((1,), -1)))
        # 5, 3, 6 and 2, 1, 1.
        self.check(4, self.moved(((4,), 6)))
        # 5, 3, -6 and 2, 1, 13.
        self.check(-5, self.moved(((4,), -6)))
        # 7, 5, 5 and 0, -1, 2.
        self.check(4, PAPER)

    def test_numbers_that_no_row_has(self):
        self.check(1, self.moved(((9,), 5)), self.moved(((0,), -5), ((3,), 100), ((9,), -BIG)))
        self.check(4, self.moved(((0,), BIG), ((4,), 6), ((8,), BIG)))

    def test_of_forty_figures_either_way(self):
        # All rows are moved alike: what those of one head cost more, those of the other one cost less.
        self.check(1, self.moved(((1,), BIG), ((4,), BIG)), self.moved(((1,), -BIG), ((4,), -BIG)))
        # The least that rows cost is 0 and 1 - BIG, and then 3 - BIG and 7.
        self.check(1 - BIG, self.moved(((1,), BIG)))
        self.check(10 - BIG, self.moved(((1,), -BIG)))

    def test_a_tree_that_is_no_join_tree(self):
        tables = (((0, 1),), ((1, 2), (3, 2)), ((2, 3),))
        tree = ((0, 1), (0, 2))
        self.assertIs(is_join_tree(PATH, tree), False)
        self.assertEqual(paper_shows(PATH, tables, ((1,), (5, 2), (4,)), (tree, ((), ()))), 7)
        self.assertEqual(paper_shows(PATH, tables, ((1,), (5, 2), (4,)), (tree, ((((3,), -3),), (((), 7),)))), 10)

    def test_where_there_is_no_join_tree(self):
        tables = samples.full_tables(TRIANGLE, 2)
        prices = ((3, 4, 5, 6),) * 3
        self.assertEqual(paper_shows(TRIANGLE, tables, prices, (((0, 1), (1, 2)), ((), ()))), 9)
        # The rows cost 3, 7, 5, 9 then, and 1, 4, 0, 3, and 5, 4, 7, 6.
        self.assertEqual(paper_shows(TRIANGLE, tables, prices, (((0, 1), (1, 2)), ((((1,), 3),), (((0,), -2),)))), 7)

    def test_no_common_column_and_heads_alike(self):
        apart = (2, ((0,), (1,)))
        for more in (0, 5, -5, BIG):
            paper = (TREE, ((((), more),),))
            self.assertEqual(paper_shows(apart, (((0,),), ((1,), (2,))), ((3,), (9, 4)), paper), 7)
        self.assertEqual(paper_shows(TWINS, (((0, 1),), ((0, 1), (1, 1))), ((3,), (9, 4)), (TREE, ((((0, 1), 6),),))), 12)

    def test_by_its_definition(self):
        seen = set()
        for layout, tables in samples.tables_near(samples.small_layouts(), 2):
            prices = samples.drawn_prices(tables)
            paper = samples.drawn_paper(layout, 70)
            told = paper_shows(layout, tables, prices, paper)
            if () in tables:
                self.assertIsNone(told)
            else:
                self.assertIs(type(told), int)
                self.assertEqual(told, samples.plain_shows(layout, tables, prices, paper))
                for row in samples.plain_joined(layout, tables)[:50]:
                    self.assertLessEqual(told, price_of(layout, tables, prices, row))
                    seen.add(told < price_of(layout, tables, prices, row))
        self.assertEqual(seen, {True, False})

    def test_none_where_a_table_has_no_row(self):
        self.assertIsNone(paper_shows(LINE, ((), TABLES[1]), ((), PRICES[1]), PLAIN))
        self.assertIsNone(paper_shows(LINE, (TABLES[0], ()), (PRICES[0], ()), PAPER))
        self.assertIsNone(paper_shows(ONE, ((),), ((),), ((), ())))

    def test_none_of_what_is_no_tree(self):
        tables = samples.full_tables(PATH, 2)
        prices = ((1, 2, 3, 4),) * 3
        good = ((0, 1), (1, 2))
        self.assertEqual(paper_shows(PATH, tables, prices, (good, ((), ()))), 3)
        for tree in [((1, 0), (1, 2)), ((0, 1), (2, 1)), ((1, 2), (0, 1)), ((0, 1), (0, 1)), ((0, 1),), (), ((1, 2),),
                     ((0, 1), (1, 3)), ((0, 1), (1, 2), (0, 2)), ((0, 1), (0, 2), (1, 2)), ((-1, 0), (0, 1)),
                     ((0, True), (1, 2)), ((False, 1), (1, 2)), [(0, 1), (1, 2)], ([0, 1], [1, 2]), ((0, 1), [1, 2]),
                     ((0, 0), (1, 2)), ((0, 1), (1, 2, 0)), ((0, 1), (1,)), None, "01", 0, ((0, 1), None)]:
            for many in range(4):
                with self.subTest((tree, many)):
                    self.assertIsNone(paper_shows(PATH, tables, prices, (tree, ((),) * many)))

    def test_none_of_what_is_no_moves(self):
        self.check(None, *[self.moved(move) for move in [
            ((1, 1), 2), ((), 2), ((10,), 2), ((-1,), 2), ((True,), 2), ((False,), 2), (("1",), 2), ([1], 2), (1, 2),
            ((None,), 2), ((1,), True), ((1,), False), ((1,), None), ((1,), "2"), ((1,), (2,)), ((1,), [2]), ((1,),),
            ((1,), 2, 3), [(1,), 2], (2, (1,)), (), None, 0, "12", {}, {(1,): 2}, ((1,), {}), (((1,),), 2)]])
        self.check(None, *[self.moved(*moves) for moves in [
            (((4,), 5), ((1,), 2)), (((1,), 2), ((1,), 2)), (((1,), 2), ((1,), 3)), (((1,), 3), ((1,), 2)),
            (((1,), 2), ((4,), 5), ((4,), 6)), (((1,), 2), ((4,), 5), ((3,), 0)), (((1,), 2), None),
            (((1,), 2), ((4, 4), 5)), (((1,), 2), ((4,), True)), (((1,), 2), ((10,), 5)), (((1,), 2), [(4,), 5])]])

    def test_none_where_a_part_is_left_out_or_more(self):
        self.check(None, (TREE,), (), (TREE, ()), (TREE, ((), ())), (TREE, ((),), ()), ((), ((),)), ((), ()),
                   (((),), TREE), ((((1,), 2),), TREE), TREE, (TREE, (((1,), 2),)), ((), TREE, ((),)))

    def test_none_of_lists_and_things_of_other_kinds(self):
        self.check(None, list(PAPER), [TREE, [[]]], (TREE, [()]), (TREE, ([],)), ([(0, 1)], ((),)), (TREE, None),
                   (None, ((),)), (TREE, "0"), (TREE, {}), (TREE, ({},)), (TREE, (None,)), (TREE, 0), (TREE, ("",)))
        self.check(None, *ODD)
        self.check(None, *[(TREE, thing) for thing in ODD if thing != ((),)])
        self.check(None, *[(TREE, (thing,)) for thing in ODD if thing != ()])
        self.check(None, *[(thing, ((),)) for thing in ODD])
        self.check(None, *[self.moved((thing, 2)) for thing in ODD if thing != (0,)])

    def test_spoiled_at_any_place(self):
        papers = [thing for thing in samples.spoiled(PAPER) if samples.is_plain_paper(LINE, thing)]
        self.check(None, *[thing for thing in samples.spoiled(PAPER) if thing not in papers])
        self.assertGreater(len(papers), 5)
        for paper in papers:
            self.check(samples.plain_shows(LINE, TABLES, PRICES, paper), paper)

    def test_refused(self):
        for paper in (PAPER, None):
            for tables in samples.spoiled_tables(LINE, TABLES) + ODD:
                with self.assertRaises(NoTables):
                    paper_shows(LINE, tables, PRICES, paper)
                with self.assertRaises(NoTables):
                    paper_shows(LINE, tables, None, paper)
            for prices in samples.spoiled(PRICES) + ODD:
                with self.assertRaises(NoNumber):
                    paper_shows(LINE, TABLES, prices, paper)
            with self.assertRaises(NoNumber):
                paper_shows(LINE, ((), ()), ((), (1,)), paper)


class PricePaper(unittest.TestCase):
    def check(self, layout, tables, prices):
        paper = price_paper(layout, tables, prices)
        best = cheapest(layout, tables, prices)
        self.assertEqual(paper is None, best is None, (layout, tables, prices))
        if paper is not None:
            self.assertIs(type(paper), tuple)
            self.assertEqual(paper_shows(layout, tables, prices, paper), best[0], (layout, tables, prices))
            self.assertEqual(samples.plain_shows(layout, tables, prices, paper), best[0])
        return paper

    def test_papers(self):
        for layout in (ONE, LINE, PATH, STAR, TWINS, WITHIN, GAPPED, COVERED, ALIKE, APART):
            tables = samples.full_tables(layout, 2, 40)
            self.check(layout, tables, samples.drawn_prices(tables))
            self.check(layout, tables, tuple((MOST,) * len(table) for table in tables))
            self.check(layout, tables, tuple((0,) * len(table) for table in tables))
        self.check(LINE, TABLES, PRICES)

    def test_of_one_head(self):
        self.assertEqual(price_paper(ONE, (((3,), (7,)),), ((9, 8),)), ((), ()))

    def test_cheap_rows_that_go_with_none(self):
        self.assertIsNotNone(self.check(LINE, (((0, 1), (0, 2)), ((1, 1), (1, 2), (3, 3))), ((9, 0), (8, 9, 0))))
        # Each table has a row that costs nothing, and that goes with rows of its neighbours alone.
        tables = (((0, 0), (1, 1)), ((0, 5), (1, 1), (2, 2)), ((1, 1), (2, 2), (5, 9)))
        self.assertIsNotNone(self.check(PATH, tables, ((0, MOST), (0, MOST, 0), (MOST, 0, 0))))
        self.assertIsNone(self.check(PATH, (tables[0], tables[1][:1], tables[2][:2]), ((0, 1), (0,), (1, 0))))
        dead = (tables[0], ((0, 4), (1, 1)), ((1, 1),))
        self.assertIsNotNone(self.check(PATH, dead, ((0, MOST), (0, MOST), (MOST,))))

    def test_dead_ends_on_each_side(self):
        layout = (7, tuple((k, k + 1) for k in range(6)))
        for place in range(6):
            tables = tuple(((0, 0), (1, 1)) if k == place else ((0, 0), (1, 1), (2, 2)) for k in range(6))
            prices = tuple((MOST,) * (len(table) - 1) + (0,) for table in tables)
            self.assertIsNotNone(self.check(layout, tables, prices))

    def test_none_where_there_is_no_joined_row(self):
        self.assertIsNone(price_paper(LINE, (((0, 1),), ((2, 0),)), ((5,), (6,))))
        for layout in (ONE, LINE, PATH, STAR, APART):
            tables = samples.full_tables(layout, 2)
            prices = tuple((1,) * len(table) for table in tables)
            for place in range(len(tables)):
                self.assertIsNone(price_paper(layout, tables[:place] + ((),) + tables[place + 1:],
                                              prices[:place] + ((),) + prices[place + 1:]))

    def test_drawn_tables_and_prices(self):
        seen = set()
        for layout, tables in samples.tables_near(samples.small_layouts() + samples.wide_layouts(60), 3):
            if samples.has_join_tree(layout):
                prices = samples.drawn_prices(tables)
                paper = self.check(layout, tables, prices)
                seen.add(paper is None)
                if paper is not None:
                    self.assertEqual(paper_shows(layout, tables, prices, paper),
                                     samples.plain_cheapest(layout, tables, prices)[0])
        self.assertEqual(seen, {True, False})

    def test_six_heads_and_many_alike_prices(self):
        layouts = [ALIKE, APART, (7, tuple((k, 6) for k in range(6))), (7, tuple((k, k + 1) for k in range(6))),
                   (7, ((0, 1, 2), (2, 3), (2, 4), (4, 5, 6), (5,), (0, 1)))]
        for layout in layouts:
            for figures in (2, 5):
                tables = samples.full_tables(layout, figures, 60)
                for prices in (tuple((7,) * len(table) for table in tables),
                               tuple(tuple(sum(row) % 3 for row in table) for table in tables),
                               tuple(tuple(k % 2 for k in range(len(table))) for table in tables)):
                    self.assertIsNotNone(self.check(layout, tables, prices))

    def test_no_joined_row_costs_less_and_one_just_so_much(self):
        for layout, tables in samples.tables_near([LINE, PATH, STAR, TWINS, WITHIN, COVERED, GAPPED], 8):
            prices = samples.drawn_prices(tables)
            rows = joined(layout, tables)
            paper = price_paper(layout, tables, prices)
            if rows:
                costs = [price_of(layout, tables, prices, row) for row in rows]
                self.assertEqual(min(costs), paper_shows(layout, tables, prices, paper))

    def refused(self, why, *things):
        with self.subTest(str(things)[:90]):
            with self.assertRaises(why):
                price_paper(*things)

    def test_refused_with_no_tables_then_no_number_then_bound(self):
        for tables in samples.spoiled_tables(LINE, TABLES) + ODD:
            self.refused(NoTables, LINE, tables, PRICES)
            self.refused(NoTables, LINE, tables, None)
        for prices in samples.spoiled(PRICES) + ODD:
            self.refused(NoNumber, LINE, TABLES, prices)
        for layout in BOUND:
            tables = samples.full_tables(layout, 2)
            prices = tuple((1,) * len(table) for table in tables)
            self.refused(NoTables, layout, tables[:-1], prices)
            self.refused(NoNumber, layout, tables, prices[:-1])
            self.refused(NoNumber, layout, tables, None)
            self.refused(Bound, layout, tables, prices)
            none = ((),) * len(tables)
            self.refused(Bound, layout, none, none)
