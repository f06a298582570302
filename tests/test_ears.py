"""Stage 2: [21], [22], [23], of [5] what ears refuse, and of [7] what ears are in."""

import itertools
import unittest

from jointrees.ears import are_steps, bare_core, ears, left_by, steps_for
from jointrees.errors import NoDeed
from jointrees.trees import first_join_tree
from tests import samples
from tests.samples import (ALIKE, APART, BIG, COVERED, LINE, ODD, ONE, PATH, RING, TAILED, TRIANGLE, TWINS, WITHIN,
                           nested)

WRONG_STEPS = [
    ((0, 1),), (), [[0, 1]], [(0,)], [(0, 1, 2)], [()], [(True, 0)], [(2, True)], [(0, 1), (2, True)], [(False, 1)],
    [(3, 1)], [(0, 3)], [(-1, 1)], [(0, -1)], [(0, BIG)], [(-BIG, 1)], [("0", "1")], [(0, None)], [([0], 1)],
    [(0, (1,))], [{0: 1}], {0: 1}, {(0, 1): (2, 1)}, [0, 1], [None], ["01"], "01", [[]], [(0, [1])], [((0, 1),)],
    nested(7, list), nested(7, tuple), [(0, 1)] * 8000, [(0, 1), 0],
]


class Ears(unittest.TestCase):
    def test_one_head_alone(self):
        self.assertEqual(ears(ONE), [])

    def test_two_heads_alike(self):
        self.assertEqual(ears(TWINS), [(0, 1), (1, 0)])
        self.assertEqual(ears(ALIKE), [(0, 1), (1, 0), (2, 0), (3, 0), (4, 0), (5, 0)])

    def test_a_head_within_another_one(self):
        self.assertEqual(ears(WITHIN), [(0, 1), (1, 0)])
        self.assertEqual(ears(COVERED), [(0, 3), (1, 3), (2, 3)])

    def test_no_column_in_common_with_any_other_one(self):
        self.assertEqual(ears(APART), [(0, 1), (1, 0), (2, 0), (3, 0), (4, 0), (5, 0)])
        self.assertEqual(ears((4, ((0, 1), (1, 2), (0, 2), (3,)))), [(3, 0)])

    def test_the_least_holder(self):
        self.assertEqual(ears(PATH), [(0, 1), (2, 1)])
        self.assertEqual(ears((3, ((0, 1), (0, 2), (0,)))), [(0, 1), (1, 0), (2, 0)])
        self.assertEqual(ears(TAILED), [(4, 0)])

    def test_no_ear(self):
        self.assertEqual(ears(TRIANGLE), [])
        self.assertEqual(ears(RING), [])

    def test_by_their_definition(self):
        for layout in samples.small_layouts():
            left = range(len(layout[1]))
            holders = {ear: samples.plain_holders(layout, left, ear) for ear in left}
            self.assertEqual(ears(layout), [(ear, min(holders[ear])) for ear in left if holders[ear]], layout)


class Steps(unittest.TestCase):
    def test_no_steps_at_all(self):
        for layout in samples.LAYOUTS:
            self.assertIs(are_steps(layout, []), True)
            self.assertEqual(left_by(layout, []), tuple(range(len(layout[1]))))

    def test_all_but_one_head_gone(self):
        for steps, left in (([(0, 1), (1, 2)], (2,)), ([(2, 1), (1, 0)], (0,)), ([(0, 1), (2, 1)], (1,)),
                            ([(2, 1), (0, 1)], (1,))):
            self.assertIs(are_steps(PATH, steps), True)
            self.assertEqual(left_by(PATH, steps), left)

    def test_some_heads_gone(self):
        self.assertEqual(left_by(PATH, [(2, 1)]), (0, 1))
        self.assertEqual(left_by(TAILED, [(4, 0), (0, 3)]), (1, 2, 3))

    def test_any_holder_will_do(self):
        for steps in ([(5, 0)], [(5, 4)], [(0, 3), (3, 5), (5, 1)]):
            self.assertIs(are_steps(ALIKE, steps), True)
            self.assertIs(are_steps(APART, steps), True)

    def refused(self, layout, things):
        for thing in things:
            with self.subTest(str(thing)[:80]):
                self.assertIs(are_steps(layout, thing), False)
                with self.assertRaises(NoDeed):
                    left_by(layout, thing)

    def test_what_the_heads_do_not_let(self):
        self.refused(PATH, [
            [(0, 2)], [(1, 0)], [(1, 2)], [(0, 0)], [(2, 2)],
            [(0, 1), (0, 1)], [(0, 1), (0, 2)], [(0, 1), (1, 0)], [(0, 1), (2, 0)], [(2, 1), (0, 2)],
            [(0, 1), (1, 2), (2, 2)], [(0, 1), (1, 2), (2, 0)], [(0, 1), (1, 2), (2, 1)],
        ])
        self.refused(ONE, [[(0, 0)], [(0, 1)], [(1, 0)]])
        self.refused(TRIANGLE, [[(0, 1)], [(2, 0)]])
        self.refused(COVERED, [[(0, 1)], [(3, 0)], [(0, 3), (1, 2)]])

    def test_a_head_that_comes_to_be_an_ear(self):
        self.refused(TAILED, [[(0, 3)]])
        self.assertIs(are_steps(TAILED, [(4, 0), (0, 3)]), True)
        self.refused(TAILED, [[(4, 0), (0, 3), (1, 2)]])

    def test_what_is_no_list_of_tuples_of_two_numbers(self):
        self.refused(PATH, WRONG_STEPS)
        self.refused(PATH, [thing for thing in ODD if thing != []])
        self.refused(PATH, [[thing] for thing in ODD])
        self.refused(PATH, [[(thing, 1)] for thing in ODD])
        self.refused(PATH, [[(0, thing)] for thing in ODD])
        self.refused(PATH, [[(0, 1), (thing, 1)] for thing in ODD])

    def test_by_their_definition(self):
        pairs = list(itertools.product(range(3), repeat=2))
        layouts = [layout for layout in samples.small_layouts() if len(layout[1]) == 3]
        for layout in layouts[::7]:
            for size in range(4):
                for steps in itertools.product(pairs, repeat=size):
                    left = samples.plain_left(layout, steps)
                    self.assertIs(are_steps(layout, list(steps)), left is not None)
                    if left is not None:
                        self.assertEqual(left_by(layout, list(steps)), left)


class StepsFor(unittest.TestCase):
    def test_the_least_ear_by_its_least_holder(self):
        self.assertEqual(steps_for(ONE), [])
        self.assertEqual(steps_for(LINE), [(0, 1)])
        self.assertEqual(steps_for(PATH), [(0, 1), (1, 2)])
        self.assertEqual(steps_for(ALIKE), [(0, 1), (1, 2), (2, 3), (3, 4), (4, 5)])
        self.assertEqual(steps_for(APART), [(0, 1), (1, 2), (2, 3), (3, 4), (4, 5)])
        self.assertEqual(steps_for(COVERED), [(0, 3), (1, 3), (2, 3)])
        self.assertEqual(steps_for(TRIANGLE), [])
        self.assertEqual(steps_for(TAILED), [(4, 0), (0, 3)])

    def test_a_lesser_ear_may_come_behind_a_greater_one(self):
        self.assertEqual(steps_for((3, ((0, 1, 2), (0, 1), (1, 2)))), [(1, 0), (0, 2)])

    def test_by_their_definition(self):
        for layout in samples.small_layouts():
            left = list(range(len(layout[1])))
            due = []
            while True:
                found = [(k, min(h)) for k, h in ((k, samples.plain_holders(layout, left, k)) for k in left) if h]
                if not found:
                    break
                due.append(min(found))
                left.remove(min(found)[0])
            self.assertEqual(steps_for(layout), due)
            self.assertIs(are_steps(layout, due), True)
            self.assertEqual(left_by(layout, due), tuple(left))


class BareCore(unittest.TestCase):
    def test_one_head_is_left(self):
        for layout in (ONE, LINE, PATH, COVERED, ALIKE, APART, TWINS, WITHIN):
            self.assertEqual(bare_core(layout), ())

    def test_what_is_left_shares(self):
        self.assertEqual(bare_core(TRIANGLE), ((0, 1), (0, 2), (1, 2)))
        self.assertEqual(bare_core(RING), ((0, 1), (0, 3), (1, 2), (2, 3)))

    def test_columns_that_only_one_has_are_left_out(self):
        self.assertEqual(bare_core(TAILED), ((0, 1), (0, 2), (1, 2)))
        self.assertEqual(bare_core((6, ((2, 3), (1, 2, 5), (0, 1, 3, 4)))), ((1, 2), (1, 3), (2, 3)))

    def test_it_is_the_same_by_whichever_steps(self):
        for layout in samples.small_layouts():
            heads = layout[1]
            cores = set()
            for left in samples.ends(layout):
                shared = [tuple(c for c in heads[k] if any(c in heads[m] for m in left if m != k)) for k in left]
                cores.add(tuple(sorted(shared)) if len(left) > 1 else ())
            self.assertEqual(cores, {bare_core(layout)}, layout)
            self.assertEqual(len(set(bare_core(layout))), len(bare_core(layout)))


class Promise(unittest.TestCase):
    def test_all_ears_but_one_head_go_just_where_there_is_a_join_tree(self):
        for layout in samples.small_layouts():
            there = first_join_tree(layout) is not None
            self.assertEqual({len(left) == 1 for left in samples.ends(layout)}, {there}, layout)
            self.assertEqual(len(left_by(layout, steps_for(layout))) == 1, there)
            self.assertEqual(bare_core(layout) == (), there)
