"""Reaching and its papers [3.1] [3.2], and the general rules [0.2] to [0.4] for them."""

import random
import unittest

from cutlinked.errors import ForestError, NoHouse, NoNumber, NoShape
from cutlinked.forests import Forest, root, way
from cutlinked.reaching import is_paper, reached
from cutlinked.shapes import is_shape, potential, resting, rows, told_forest
from tests.helper import frozen, large_forests, no_houses, no_integers, no_manys, strange_things
from tests.shaping import (
    LEFT, RIGHT, UP, drawn_shape, hanging_shape, own_rank, own_reached, row_shape, some_shapes, tops,
)

A = Forest((None, 0, 1, 1), (5, 7, 2, 9))
LONE = ((None, None, None, False, 0, 0),)


class ReachCase(unittest.TestCase):
    def check_reach(self, shape, house):
        """Reach a house, and look at all that is promised of it; returns what was returned."""
        held = frozen((shape, house))
        told = reached(shape, house)
        self.assertEqual(frozen(told), frozen(own_reached(shape, house)))
        self.assertEqual(reached(shape, house), told)
        self.assertEqual(frozen((shape, house)), held)
        behind, paper = told
        self.check_facts(shape, house, behind, paper)
        return told

    def check_facts(self, shape, house, behind, paper):
        self.assertTrue(is_shape(behind))
        forest = told_forest(shape)
        self.assertEqual(told_forest(behind), forest)
        self.assertIsNone(behind[house][UP])
        self.assertIsNone(behind[house][RIGHT])
        self.assertEqual(rows(behind)[tops(behind).index(house)], way(forest, root(forest, house), house))
        first, met, last, change = paper
        self.assertEqual(last, met // 2)
        self.assertEqual(change, potential(behind) - potential(shape))
        self.assertLessEqual(first + met + last + 5 * change, 30 * own_rank(len(shape)) + 7)
        self.assertIs(is_paper(len(shape), paper), True)


class TestReached(ReachCase):
    def test_example(self):
        self.assertEqual(reached(resting(A), 2), ((
            (1, None, None, False, 0, 5), (2, 0, None, False, 0, 7), (None, 1, None, False, 0, 2),
            (1, None, None, False, 0, 9)), (0, 3, 1, 0)))

    def test_one_house(self):
        self.assertEqual(reached(LONE, 0), (LONE, (0, 1, 0, 0)))
        waits = ((None, None, None, True, 8, 4),)
        self.assertEqual(reached(waits, 0), (((None, None, None, False, 0, 4),), (0, 1, 0, 0)))

    def test_a_top_with_a_right_son(self):
        shape = ((None, 1, 2, False, 5, 0), (0, None, None, False, 0, 1), (0, None, None, True, 0, 2))
        self.assertEqual(reached(shape, 0), (((None, 1, None, False, 0, 0), (0, None, None, False, 5, 6),
                                              (0, None, None, True, 5, 7)), (0, 1, 0, 0)))

    def test_one_step_of_each_sort(self):
        # The up is a top.
        shape = ((None, 1, None, False, 0, 0), (0, None, None, False, 0, 1))
        self.assertEqual(reached(shape, 1), (((1, None, None, False, 0, 0), (None, None, None, False, 0, 1)),
                                             (1, 1, 0, 0)))
        # Both left sons: first the up is turned up.
        self.assertEqual(reached(row_shape(3, (LEFT,)), 2), ((
            (1, None, None, False, 0, 0), (2, None, 0, False, 0, 1), (None, None, None, False, 0, 2)), (1, 1, 0, 0)))
        # A left son's right son: it is turned up twice.
        zigzag = ((None, 1, None, False, 0, 0), (0, None, 2, False, 0, 1), (1, None, None, False, 0, 2))
        self.assertEqual(reached(zigzag, 2), (((2, None, None, False, 0, 0), (2, None, None, False, 0, 1),
                                               (None, 1, None, False, 0, 2)), (1, 1, 0, -1)))

    def test_two_rows(self):
        # 2 hangs at 1, which has the right son 0, and is handed on to behind that.
        shape = ((1, None, None, False, 0, 0), (None, None, 0, True, 9, 1), (1, None, None, False, 0, 2))
        self.assertEqual(reached(shape, 2), (((1, None, None, True, 9, 9), (2, 0, None, False, 0, 1),
                                              (None, 1, None, False, 0, 2)), (0, 2, 1, 1)))

    def test_all_houses_of_some_shapes(self):
        for shape in some_shapes():
            for house in range(0, len(shape), 1 + len(shape) // 6):
                self.check_reach(shape, house)
            self.check_reach(shape, len(shape) - 1)

    def test_all_houses_of_small_shapes(self):
        chance = random.Random(43)
        for _ in range(120):
            shape = drawn_shape(chance, chance.randrange(1, 9), 0.05, 0.3)
            for house in range(len(shape)):
                self.check_reach(shape, house)

    def test_one_behind_another(self):
        chance = random.Random(47)
        starts = [row_shape(64, (LEFT,), range(0, 64, 5)), row_shape(64, (RIGHT,), (), range(3, 40, 4)),
                  row_shape(33, (LEFT, RIGHT)), hanging_shape((1,) * 64), hanging_shape((8,) * 8),
                  drawn_shape(chance, 40, 0.02, 0.5), drawn_shape(chance, 17, 0.02, 0.1)]
        for shape in starts + [resting(forest) for forest in large_forests()[:7]]:
            for _ in range(25):
                shape, _ = self.check_reach(shape, chance.randrange(len(shape)))

    def test_along_a_line(self):
        shape = resting(Forest((None,) + tuple(range(63)), tuple(range(64))))
        shape, paper = self.check_reach(shape, 63)
        self.assertEqual(paper[:3], (0, 64, 32))
        for house in range(64):
            shape, _ = self.check_reach(shape, house)

    def test_kinds(self):
        told = reached(resting(A), 3)
        for thing in (told, told[0], told[0][0], told[1]):
            self.assertIs(type(thing), tuple)
        self.assertEqual([type(number) for number in told[1]], [int] * 4)


class TestReachedErrors(ReachCase):
    def assert_raises(self, error, *passed):
        held = frozen(passed)
        with self.assertRaises(error) as caught:
            reached(*passed)
        self.assertIs(caught.exception.__class__, error)
        self.assertEqual(frozen(passed), held)

    def test_no_shape(self):
        for thing in strange_things() + [0, list(resting(A)), resting(A) + (None,), resting(A)[1:]]:
            for house in (0, None, True, -1, 64, "0"):
                self.assert_raises(NoShape, thing, house)

    def test_no_house(self):
        for shape in (LONE, resting(A), row_shape(64, (LEFT,))):
            for thing in no_houses(len(shape)):
                self.assert_raises(NoHouse, shape, thing)

    def test_caught_as_forest_error(self):
        for call in (lambda: reached(0, 0), lambda: reached(LONE, 1), lambda: is_paper(0, 0)):
            with self.assertRaises(ForestError):
                call()


class TestIsPaper(unittest.TestCase):
    def test_examples(self):
        self.assertIs(is_paper(4, (0, 3, 1, 0)), True)
        self.assertIs(is_paper(1, (0, 1, 0, 2)), False)

    def test_at_the_bound(self):
        for many in range(1, 65):
            most = 30 * own_rank(many) + 7
            for met, change in [(1, 0), (2, 1), (3, 0), (4, -40), (5, -1), (1, 1)]:
                last = met // 2
                first = most - met - last - 5 * change
                if first < 1:
                    continue
                self.assertIs(is_paper(many, (first - 1, met, last, change)), True)
                self.assertIs(is_paper(many, (first, met, last, change)), True)
                self.assertIs(is_paper(many, (first + 1, met, last, change)), False)
                self.assertIs(is_paper(many, (first, met, last, change + 1)), False)
                self.assertIs(is_paper(many, (first, met, last, change - 1)), True)
                self.assertIs(is_paper(many, (first, met + 2, last + 1, change)), False)

    def test_change_far_below(self):
        self.assertIs(is_paper(1, (10 ** 19, 1, 0, -2 * 10 ** 18 + 1)), True)
        self.assertIs(is_paper(1, (10 ** 19, 1, 0, -2 * 10 ** 18 + 2)), False)
        self.assertIs(is_paper(64, (0, 1, 0, -10 ** 20 + 1)), True)
        self.assertIs(is_paper(64, (0, 2 * 10 ** 19, 10 ** 19, -10 ** 20 + 1)), True)

    def test_first(self):
        for first in (-1, -2, -10 ** 19):
            self.assertIs(is_paper(64, (first, 3, 1, 0)), False)
        for thing in no_integers():
            self.assertIs(is_paper(64, (thing, 3, 1, 0)), False)

    def test_met(self):
        self.assertIs(is_paper(64, (0, 0, 0, 0)), False)
        self.assertIs(is_paper(64, (5, 1, 0, 0)), True)
        self.assertIs(is_paper(64, (0, -1, -1, 0)), False)
        self.assertIs(is_paper(64, (0, -2, -1, 0)), False)
        for thing in no_integers():
            self.assertIs(is_paper(64, (0, thing, 0, 0)), False)
            self.assertIs(is_paper(64, (0, thing, thing, 0)), False)

    def test_last(self):
        for met in range(1, 30):
            for last in range(-1, 31):
                self.assertIs(is_paper(64, (0, met, last, 0)), last == met // 2)
        for met in (1, 2):
            for thing in no_integers():
                self.assertIs(is_paper(64, (0, met, thing, 0)), False)

    def test_change(self):
        for thing in no_integers():
            self.assertIs(is_paper(64, (0, 1, 0, thing)), False)

    def test_strange_things(self):
        paper = (0, 3, 1, 0)
        others = [list(paper), paper[:3], paper[:2], paper + (0,), (paper,), [paper], 0, "0310", dict(enumerate(paper))]
        for thing in strange_things() + others:
            held = frozen(thing)
            self.assertIs(is_paper(4, thing), False)
            self.assertEqual(frozen(thing), held)

    def test_no_number_ahead_of_judging(self):
        for thing in no_manys():
            for paper in ((0, 3, 1, 0), None, [], (0, 0, 0, 0)):
                with self.assertRaises(NoNumber) as caught:
                    is_paper(thing, paper)
                self.assertIs(caught.exception.__class__, NoNumber)


if __name__ == "__main__":
    unittest.main()
