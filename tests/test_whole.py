"""[7] over the whole program: ears, trees, bars, nests, orders, tables, cuts, counts and papers together."""

import itertools
import random
import unittest

from jointrees.bars import bar_for, is_bar
from jointrees.counts import joined_at, joined_columns, many_joined, many_saying, number_of
from jointrees.cuts import cut_by, deeds_for, joined_parts
from jointrees.dear import cheapest, price_of
from jointrees.ears import ears, left_by, steps_for
from jointrees.errors import Bound, TooMany
from jointrees.nests import first_nests, heads_alone, wreath_of
from jointrees.orders import column_order_for, running_for
from jointrees.papers import paper_shows, price_paper
from jointrees.parting import are_parting, parting_of
from jointrees.tables import agree, are_tables, joined
from jointrees.texts import layout_read, layout_text, table_read, table_text
from jointrees.trees import all_join_trees, due_weight, first_join_tree, is_join_tree, many_join_trees, weight_of
from tests import samples

LAYOUTS = samples.small_layouts() + samples.wide_layouts(120)


def steps_gone_at_will(layout, draw):
    """Steps by which whichever ear goes, by whichever holder, until there is none."""
    left = list(range(len(layout[1])))
    steps = []
    while True:
        choice = [(ear, holder) for ear in left for holder in samples.plain_holders(layout, left, ear)]
        if not choice:
            return steps
        steps.append(draw.choice(choice))
        left.remove(steps[-1][0])


class Layouts(unittest.TestCase):
    def test_all_ears_but_one_head_go_just_where_there_is_a_join_tree_whichever_goes_first(self):
        draw = random.Random(100)
        for layout in LAYOUTS:
            there = first_join_tree(layout) is not None
            self.assertEqual(len(left_by(layout, steps_for(layout))) == 1, there, layout)
            for ear, holder in ears(layout):
                # The rest is gone on with as if this one had never been.
                rest = [k for k in range(len(layout[1])) if k != ear]
                self.assertEqual(first_join_tree(heads_alone(layout, tuple(rest))) is not None, there, layout)
            for _ in range(3):
                self.assertEqual(len(left_by(layout, steps_gone_at_will(layout, draw))) == 1, there, layout)

    def test_there_is_a_join_tree_or_a_bar_never_both(self):
        for layout in LAYOUTS:
            tree, bar = first_join_tree(layout), bar_for(layout)
            self.assertNotEqual(tree is None, bar is None, layout)
            self.assertEqual(tree is None, many_join_trees(layout) == 0)
            if tree is None:
                self.assertIs(is_bar(layout, bar), True)
            else:
                self.assertIs(is_join_tree(layout, tree), True)
                self.assertEqual(weight_of(layout, tree), due_weight(layout))
                self.assertEqual(all_join_trees(layout)[0], tree)

    def test_orders_are_there_just_where_a_join_tree_is(self):
        for layout in LAYOUTS:
            there = first_join_tree(layout) is not None
            self.assertEqual(running_for(layout) is not None, there, layout)
            self.assertEqual(column_order_for(layout) is not None, there, layout)

    def test_all_parts_of_the_heads_have_join_trees_just_where_nests_go_all(self):
        for layout in samples.LAYOUTS + samples.drawn_layouts(60) + samples.wide_layouts(60):
            numbers = range(len(layout[1]))
            parts = [part for size in numbers for part in itertools.combinations(numbers, size + 1)]
            there = all(first_join_tree(heads_alone(layout, part)) is not None for part in parts)
            self.assertEqual(first_nests(layout) is not None, there, layout)
            self.assertEqual(wreath_of(layout) is None, there, layout)

    def test_parting_tables_are_there_just_where_a_bar_is(self):
        for layout in LAYOUTS:
            parted = parting_of(layout)
            self.assertEqual(parted is None, bar_for(layout) is None, layout)
            if parted is not None:
                self.assertIs(are_parting(layout, parted), True)
                self.assertIs(agree(layout, parted), True)
                self.assertNotIn((), parted)
                self.assertEqual(joined(layout, parted), [])
                self.assertEqual(joined_parts(layout, parted), ((),) * len(parted))
                with self.assertRaises(Bound):
                    many_joined(layout, parted)


class Tables(unittest.TestCase):
    def each(self, many):
        return samples.tables_near(samples.LAYOUTS + samples.drawn_layouts(120) + samples.wide_layouts(60), many)

    def test_tables_agree_just_where_each_row_is_joined(self):
        for layout, tables in self.each(2):
            parts = joined_parts(layout, tables)
            self.assertIs(are_tables(layout, parts), True)
            self.assertIs(agree(layout, parts), True)
            if first_join_tree(layout) is not None and () not in tables:
                self.assertEqual(agree(layout, tables), parts == tables, (layout, tables))

    def test_cut_up_and_down_each_table_keeps_just_the_rows_in_joined_rows(self):
        for layout, tables in self.each(2):
            if first_join_tree(layout) is None:
                with self.assertRaises(Bound):
                    deeds_for(layout)
            else:
                self.assertEqual(cut_by(layout, tables, deeds_for(layout)), joined_parts(layout, tables))

    def test_joined_rows_are_as_many_as_are_told(self):
        for layout, tables in self.each(2):
            if first_join_tree(layout) is not None:
                many = many_joined(layout, tables)
                columns = tuple(samples.in_heads(layout))
                self.assertEqual(many_saying(layout, tables, ()), many)
                self.assertEqual(sum(many_saying(layout, tables, ((columns[0], k),)) for k in range(10)), many)
                if many > 1000:
                    with self.assertRaises(TooMany):
                        joined(layout, tables)
                else:
                    rows = joined(layout, tables)
                    self.assertEqual(len(rows), many)
                    self.assertEqual(joined_columns(layout, tables, columns), rows)
                    for number in {0, many // 2, many - 1} & set(range(many)):
                        self.assertEqual(joined_at(layout, tables, number), rows[number])
                        self.assertEqual(number_of(layout, tables, rows[number]), number)

    def test_no_joined_row_costs_less_than_a_paper_shows_and_one_just_so_much(self):
        shown = 0
        for layout, tables in self.each(2):
            prices = samples.drawn_prices(tables)
            rows = samples.plain_joined(layout, tables)[:200]
            paper = samples.drawn_paper(layout, 110)
            if () not in tables:
                for row in rows:
                    self.assertLessEqual(paper_shows(layout, tables, prices, paper), price_of(layout, tables, prices, row))
            if first_join_tree(layout) is not None and rows:
                best = cheapest(layout, tables, prices)
                just = price_paper(layout, tables, prices)
                self.assertIs(is_join_tree(layout, just[0]), True)
                self.assertEqual(paper_shows(layout, tables, prices, just), best[0])
                self.assertEqual(price_of(layout, tables, prices, best[1]), best[0])
                shown += 1
        self.assertGreater(shown, 50)

    def test_texts_of_all_of_it(self):
        for layout, tables in self.each(1):
            self.assertEqual(layout_read(layout_text(layout)), layout)
            self.assertEqual(tuple(table_read(table_text(table)) for table in tables), tables)
