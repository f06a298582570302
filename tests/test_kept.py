"""[4]: nothing handed in is changed, each told list is new, the same asked again has the same answer."""

import copy
import unittest

from jointrees.bars import bar_for, is_bar
from jointrees.ears import are_steps, bare_core, ears, left_by, steps_for
from jointrees.errors import JoinError
from jointrees.layouts import beside, common, heads_of, is_layout, named, pieces, without
from jointrees.loops import counts_of, is_loop, loop_of
from jointrees.nests import are_nests, first_nests, heads_alone, is_wreath, wreath_of
from jointrees.orders import column_order_for, is_column_order, is_running, running_for
from jointrees.trees import (all_join_trees, due_weight, first_join_tree, is_join_tree, is_tree, many_join_trees,
                             way_in, weight_of)
from tests.samples import ALIKE, COVERED, LAYOUTS, LINE, ODD, PATH, RING, TWINS, wide_layouts

LISTS = [pieces, ears, steps_for, all_join_trees]
TUPLES_OR_NONE = [bar_for, first_nests, wreath_of, loop_of, counts_of, running_for, column_order_for]
OF_ONE_LAYOUT = LISTS + TUPLES_OR_NONE + [bare_core, first_join_tree, many_join_trees, due_weight]
LOOKERS = [are_steps, is_tree, is_join_tree, is_bar, are_nests, is_wreath, is_loop, is_running, is_column_order]
OF_A_LAYOUT_AND_A_THING = LOOKERS + [heads_of, named, without, left_by, weight_of, heads_alone]
LOOKED_AT_BY = [(bar_for, is_bar), (first_nests, are_nests), (wreath_of, is_wreath), (loop_of, is_loop),
                (running_for, is_running), (column_order_for, is_column_order)]


def answer(ask, things):
    """What is told, or the class by which it is refused."""
    try:
        return ask(*things)
    except JoinError as why:
        return type(why)


def kinds_within(thing):
    """The kinds of all that a told tuple is made of."""
    if type(thing) is not tuple:
        return {type(thing)}
    return {tuple}.union(*[kinds_within(part) for part in thing])


class Kept(unittest.TestCase):
    def check(self, ask, *things):
        before = copy.deepcopy(things)
        first = answer(ask, things)
        self.assertEqual(repr(things), repr(before))
        self.assertEqual(answer(ask, things), first)
        self.assertEqual(repr(things), repr(before))

    def test_what_is_handed_in_is_as_it_was(self):
        for layout in LAYOUTS:
            self.check(is_layout, layout)
            for ask in OF_ONE_LAYOUT:
                self.check(ask, layout)
        self.check(left_by, PATH, [(0, 1), (1, 2)])
        self.check(are_steps, PATH, [(0, 1), (1, 2)])
        self.check(named, LINE, (2, 0, 1))
        self.check(beside, LINE, TWINS)
        self.check(without, PATH, 1)
        self.check(weight_of, PATH, ((0, 1), (1, 2)))
        self.check(way_in, PATH, ((0, 1), (1, 2)), 0, 2)
        self.check(heads_alone, PATH, (0, 2))
        for layout in LAYOUTS:
            for ask, look in LOOKED_AT_BY:
                self.check(look, layout, ask(layout))

    def test_also_where_it_is_refused(self):
        wrong = ODD + [[(0, 1), (0, 2)], [(0, 1), [1, 2]], [[0, 1]], [[(0, 1)]], ([0, 1], [1, 2]), {"a": [1, {0: [2]}]},
                       ("ring", [0, 1, 2, 3]), ["lot", (0, 1, 2)], ([0, 1, 2], [1, 2, 0]), [[0, 1], [0, 1]], [0, 1, 2],
                       ([2], [1], [0]), [3, 2, 1, 0]]
        for thing in wrong:
            self.check(is_layout, thing)
            for ask in OF_A_LAYOUT_AND_A_THING:
                self.check(ask, PATH, thing)
            self.check(common, PATH, thing, 0)
            self.check(common, PATH, 0, thing)
            self.check(way_in, PATH, thing, 0, 1)
            self.check(way_in, PATH, ((0, 1), (1, 2)), 0, thing)
        self.check(beside, ALIKE, RING)

    def test_a_looker_tells_true_or_false_of_whatever_it_is_handed(self):
        things = ODD + [ask(layout) for layout in LAYOUTS for ask in OF_ONE_LAYOUT] + LAYOUTS
        for layout in LAYOUTS:
            for look in LOOKERS:
                for thing in things:
                    self.assertIn(look(layout, thing), (True, False))
                    self.assertIs(type(look(layout, thing)), bool)

    def test_a_told_list_is_the_askers_own(self):
        for layout in LAYOUTS:
            for ask in LISTS:
                told = ask(layout)
                before = list(told)
                self.assertIs(type(told), list)
                told.append("more")
                told.reverse()
                self.assertEqual(ask(layout), before)
                told.clear()
                self.assertEqual(ask(layout), before)

    def test_what_is_done_later_to_what_was_handed_in_changes_nothing(self):
        steps = [(0, 1)]
        left = left_by(PATH, steps)
        steps.append((1, 2))
        self.assertEqual(left, (1, 2))
        self.assertEqual(left_by(PATH, steps), (2,))
        self.assertEqual(left_by(PATH, [(0, 1)]), (1, 2))

    def test_what_is_told_may_be_handed_in_again(self):
        self.assertEqual(left_by(COVERED, steps_for(COVERED)), (3,))
        self.assertEqual(weight_of(COVERED, first_join_tree(COVERED)), due_weight(COVERED))
        self.assertIs(is_join_tree(COVERED, all_join_trees(COVERED)[0]), True)
        self.assertIs(is_layout(without(named(beside(LINE, TWINS), (4, 3, 2, 1, 0)), 0)), True)
        self.assertIs(is_layout(heads_alone(without(COVERED, 0), running_for(PATH)[:2])), True)
        for layout in LAYOUTS + wide_layouts(60):
            for ask, look in LOOKED_AT_BY:
                self.assertIs(look(layout, ask(layout)), ask(layout) is not None, (layout, ask))

    def test_what_is_in_a_told_list_is_tuples_of_whole_numbers(self):
        for layout in LAYOUTS:
            for part in [part for ask in LISTS for part in ask(layout)] + list(bare_core(layout)):
                self.assertIs(type(part), tuple)
                numbers = [number for one in part for number in (one if type(one) is tuple else (one,))]
                self.assertEqual({type(number) for number in numbers} - {int}, set())

    def test_a_told_tuple_is_made_of_tuples_and_whole_numbers(self):
        for layout in LAYOUTS + wide_layouts(60):
            for ask in TUPLES_OR_NONE:
                told = ask(layout)
                if told is not None:
                    self.assertEqual(kinds_within(told) - ({str} if ask is bar_for else set()), {tuple, int})
            self.assertEqual(kinds_within(heads_alone(layout, (0,))), {tuple, int})
