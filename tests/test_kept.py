"""[4]: nothing handed in is changed, each told list is new, the same asked again has the same answer."""

import copy
import unittest

from jointrees.bars import bar_for, is_bar
from jointrees.counts import joined_at, joined_columns, many_joined, many_saying, number_of
from jointrees.cuts import cut_by, deeds_for, joined_parts
from jointrees.dear import are_prices, cheapest, price_of
from jointrees.desk import Desk
from jointrees.ears import are_steps, bare_core, ears, left_by, steps_for
from jointrees.errors import JoinError
from jointrees.layouts import beside, common, heads_of, is_layout, named, pieces, without
from jointrees.loops import counts_of, is_loop, loop_of
from jointrees.nests import are_nests, first_nests, heads_alone, is_wreath, wreath_of
from jointrees.orders import column_order_for, is_column_order, is_running, running_for
from jointrees.papers import paper_shows, price_paper
from jointrees.parting import are_parting, parting_of
from jointrees.tables import agree, are_tables, columns_of, joined
from jointrees.texts import layout_read, layout_text, table_read, table_text
from jointrees.trees import (all_join_trees, due_weight, first_join_tree, is_join_tree, is_tree, many_join_trees,
                             way_in, weight_of)
from tests.samples import (ALIKE, COVERED, LAYOUTS, LINE, ODD, PATH, RING, TWINS, full_tables, has_join_tree,
                           spoiled_tables, tables_near, wide_layouts)

LISTS = [pieces, ears, steps_for, all_join_trees]
TUPLES_OR_NONE = [bar_for, first_nests, wreath_of, loop_of, counts_of, running_for, column_order_for, parting_of]
OF_ONE_LAYOUT = LISTS + TUPLES_OR_NONE + [bare_core, first_join_tree, many_join_trees, due_weight]
LOOKERS = [are_steps, is_tree, is_join_tree, is_bar, are_nests, is_wreath, is_loop, is_running, is_column_order,
           are_tables, are_parting]
OF_A_LAYOUT_AND_A_THING = LOOKERS + [heads_of, named, without, left_by, weight_of, heads_alone]
LOOKED_AT_BY = [(bar_for, is_bar), (first_nests, are_nests), (wreath_of, is_wreath), (loop_of, is_loop),
                (running_for, is_running), (column_order_for, is_column_order), (parting_of, are_tables),
                (parting_of, are_parting)]
PATH_TABLES = full_tables(PATH, 3, 7)
PATH_PRICES = ((3, 1, 4, 1, 5, 9, 2),) * 3
PATH_PAPER = (((0, 1), (1, 2)), ((((0,), 2), ((1,), -3)), (((1,), 4),)))
# What may be asked of PATH's tables, right and wrong.
ASKED_OF_TABLES = [
    (agree,), (joined,), (joined_parts,), (many_joined,), (columns_of, 0, (1,)), (columns_of, 0, [1]),
    (columns_of, 5, ()), (cut_by, [(0, 1), (1, 2)]), (cut_by, [(0, 1), [1, 2]]), (cut_by, [[0, 1]]), (cut_by, ((0, 1),)),
    (joined_at, 1), (joined_at, [1]), (joined_at, 10 ** 9), (number_of, (0, 0, 0, 0)), (number_of, [0, 0, 0, 0]),
    (many_saying, ((0, 0), (2, 1))), (many_saying, [(0, 0)]), (many_saying, ([0, 0],)), (joined_columns, (0, 3)),
    (joined_columns, [0, 3]), (are_prices, PATH_PRICES), (are_prices, [[3, 1]]), (cheapest, PATH_PRICES),
    (cheapest, list(PATH_PRICES)), (price_of, PATH_PRICES, (0, 0, 0, 0)), (price_of, PATH_PRICES, [0, 0, 0, 0]),
    (price_of, [[3]], (0, 0, 0, 0)), (paper_shows, PATH_PRICES, PATH_PAPER), (paper_shows, PATH_PRICES, [[], [[]]]),
    (paper_shows, PATH_PRICES, (((0, 1), (1, 2)), ([], [[(0,), 2]]))), (paper_shows, [], PATH_PAPER),
    (price_paper, PATH_PRICES), (price_paper, [[3, 1, 4]])]


def answer(ask, things):
    """What is told, or the class by which it is refused."""
    try:
        return ask(*things)
    except JoinError as why:
        return type(why)


def kinds_within(thing):
    """The kinds of all that a told tuple is made of."""
    if type(thing) is not tuple:
        return {type(thing)}
    return {tuple}.union(*[kinds_within(part) for part in thing])


class Kept(unittest.TestCase):
    def check(self, ask, *things):
        before = copy.deepcopy(things)
        first = answer(ask, things)
        self.assertEqual(repr(things), repr(before))
        self.assertEqual(answer(ask, things), first)
        self.assertEqual(repr(things), repr(before))

    def test_what_is_handed_in_is_as_it_was(self):
        for layout in LAYOUTS:
            self.check(is_layout, layout)
            for ask in OF_ONE_LAYOUT:
                self.check(ask, layout)
        self.check(left_by, PATH, [(0, 1), (1, 2)])
        self.check(are_steps, PATH, [(0, 1), (1, 2)])
        self.check(named, LINE, (2, 0, 1))
        self.check(beside, LINE, TWINS)
        self.check(without, PATH, 1)
        self.check(weight_of, PATH, ((0, 1), (1, 2)))
        self.check(way_in, PATH, ((0, 1), (1, 2)), 0, 2)
        self.check(heads_alone, PATH, (0, 2))
        for layout in LAYOUTS:
            for ask, look in LOOKED_AT_BY:
                self.check(look, layout, ask(layout))

    def test_also_where_it_is_refused(self):
        wrong = ODD + [[(0, 1), (0, 2)], [(0, 1), [1, 2]], [[0, 1]], [[(0, 1)]], ([0, 1], [1, 2]), {"a": [1, {0: [2]}]},
                       ("ring", [0, 1, 2, 3]), ["lot", (0, 1, 2)], ([0, 1, 2], [1, 2, 0]), [[0, 1], [0, 1]], [0, 1, 2],
                       ([2], [1], [0]), [3, 2, 1, 0]]
        for thing in wrong:
            self.check(is_layout, thing)
            for ask in OF_A_LAYOUT_AND_A_THING:
                self.check(ask, PATH, thing)
            self.check(common, PATH, thing, 0)
            self.check(common, PATH, 0, thing)
            self.check(way_in, PATH, thing, 0, 1)
            self.check(way_in, PATH, ((0, 1), (1, 2)), 0, thing)
        self.check(beside, ALIKE, RING)

    def test_what_tables_are_asked(self):
        wrong = spoiled_tables(PATH, PATH_TABLES) + [[list(map(list, table)) for table in PATH_TABLES], [[], [], []]]
        for ask, *things in ASKED_OF_TABLES:
            self.check(ask, PATH, PATH_TABLES, *things)
            for tables in wrong:
                self.check(ask, PATH, tables, *things)
            self.check(ask, RING, full_tables(RING, 2), *things)
        for layout, tables in tables_near(LAYOUTS, 2):
            for ask in (are_tables, are_parting, agree, joined, joined_parts, many_joined):
                self.check(ask, layout, tables)
        for layout in LAYOUTS:
            self.check(deeds_for, layout)

    def test_texts_and_desks(self):
        for thing in ODD + [[["3 : 0"]], {"show": ["show"]}, ["show"]]:
            self.check(layout_read, thing)
            self.check(table_read, thing)
            self.check(Desk().say, thing)
        for layout in LAYOUTS:
            self.check(layout_text, layout)
            self.check(layout_read, layout_text(layout))
        for table in PATH_TABLES + ((),):
            self.check(table_text, table)
            self.check(table_read, table_text(table))
        desk = Desk()
        for row in ("layout 3 : 0,1 1,2", "put 0 01", "put 1 12"):
            desk.say(row)
        for row in ("show", "table 0", "tree", "nests", "agree", "joined", "many", "at 0", "at 1", "put 0 01", "put 9 0",
                    "take 0 22", "nothing"):
            self.check(desk.say, row)

    def test_lists_told_of_tables_are_new(self):
        for ask, things in ((joined, ()), (joined_columns, ((0, 2),))):
            told = ask(PATH, PATH_TABLES, *things)
            before = list(told)
            self.assertIs(type(told), list)
            self.assertGreater(len(told), 2)
            told.reverse()
            told.append(None)
            self.assertEqual(ask(PATH, PATH_TABLES, *things), before)
        for layout in filter(has_join_tree, LAYOUTS):
            told = deeds_for(layout)
            before = list(told)
            self.assertIs(type(told), list)
            told.append(None)
            self.assertEqual(deeds_for(layout), before)

    def test_deeds_changed_later_change_nothing(self):
        deeds = [(1, 0)]
        told = cut_by(PATH, PATH_TABLES, deeds)
        before = repr(told)
        deeds.append((0, 1))
        deeds.reverse()
        self.assertEqual(repr(told), before)

    def test_told_tables_are_made_of_tuples_and_whole_numbers(self):
        for told in (cut_by(PATH, PATH_TABLES, []), cut_by(PATH, PATH_TABLES, [(0, 1)]), joined_parts(PATH, PATH_TABLES),
                     columns_of(PATH, PATH_TABLES, 0, (1,)), cheapest(PATH, PATH_TABLES, PATH_PRICES),
                     price_paper(PATH, PATH_TABLES, PATH_PRICES), layout_read("3 : 0,1 1,2"), table_read("01 12"), joined_at(PATH, PATH_TABLES, 0),
                     tuple(joined(PATH, PATH_TABLES)), tuple(joined_columns(PATH, PATH_TABLES, (0, 1)))):
            self.assertEqual(kinds_within(told), {tuple, int})

    def test_a_looker_tells_true_or_false_of_whatever_it_is_handed(self):
        things = ODD + [ask(layout) for layout in LAYOUTS for ask in OF_ONE_LAYOUT] + LAYOUTS
        for layout in LAYOUTS:
            for look in LOOKERS:
                for thing in things:
                    self.assertIn(look(layout, thing), (True, False))
                    self.assertIs(type(look(layout, thing)), bool)

    def test_a_told_list_is_the_askers_own(self):
        for layout in LAYOUTS:
            for ask in LISTS:
                told = ask(layout)
                before = list(told)
                self.assertIs(type(told), list)
                told.append("more")
                told.reverse()
                self.assertEqual(ask(layout), before)
                told.clear()
                self.assertEqual(ask(layout), before)

    def test_what_is_done_later_to_what_was_handed_in_changes_nothing(self):
        steps = [(0, 1)]
        left = left_by(PATH, steps)
        steps.append((1, 2))
        self.assertEqual(left, (1, 2))
        self.assertEqual(left_by(PATH, steps), (2,))
        self.assertEqual(left_by(PATH, [(0, 1)]), (1, 2))

    def test_what_is_told_may_be_handed_in_again(self):
        self.assertEqual(left_by(COVERED, steps_for(COVERED)), (3,))
        self.assertEqual(weight_of(COVERED, first_join_tree(COVERED)), due_weight(COVERED))
        self.assertIs(is_join_tree(COVERED, all_join_trees(COVERED)[0]), True)
        self.assertIs(is_layout(without(named(beside(LINE, TWINS), (4, 3, 2, 1, 0)), 0)), True)
        self.assertIs(is_layout(heads_alone(without(COVERED, 0), running_for(PATH)[:2])), True)
        cut = cut_by(PATH, joined_parts(PATH, PATH_TABLES), deeds_for(PATH))
        self.assertIs(agree(PATH, cut), True)
        self.assertEqual(number_of(PATH, cut, joined(PATH, PATH_TABLES)[3]), 3)
        self.assertEqual(number_of(PATH, cut, joined_at(PATH, cut, 2)), 2)
        self.assertEqual(joined(RING, parting_of(RING)), [])
        price, row = cheapest(PATH, PATH_TABLES, PATH_PRICES)
        self.assertEqual(price_of(PATH, PATH_TABLES, PATH_PRICES, row), price)
        self.assertEqual(paper_shows(PATH, PATH_TABLES, PATH_PRICES, price_paper(PATH, PATH_TABLES, PATH_PRICES)), price)
        self.assertEqual(table_read(table_text(tuple(joined(PATH, PATH_TABLES)))), tuple(joined(PATH, PATH_TABLES)))
        self.assertIs(is_layout(layout_read(layout_text(RING))), True)
        for layout in LAYOUTS + wide_layouts(60):
            for ask, look in LOOKED_AT_BY:
                self.assertIs(look(layout, ask(layout)), ask(layout) is not None, (layout, ask))

    def test_what_is_in_a_told_list_is_tuples_of_whole_numbers(self):
        for layout in LAYOUTS:
            for part in [part for ask in LISTS for part in ask(layout)] + list(bare_core(layout)):
                self.assertIs(type(part), tuple)
                numbers = [number for one in part for number in (one if type(one) is tuple else (one,))]
                self.assertEqual({type(number) for number in numbers} - {int}, set())

    def test_a_told_tuple_is_made_of_tuples_and_whole_numbers(self):
        for layout in LAYOUTS + wide_layouts(60):
            for ask in TUPLES_OR_NONE:
                told = ask(layout)
                if told is not None:
                    self.assertEqual(kinds_within(told) - ({str} if ask is bar_for else set()), {tuple, int})
            self.assertEqual(kinds_within(heads_alone(layout, (0,))), {tuple, int})
