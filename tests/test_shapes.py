"""Shapes, rows, what a shape tells, weights, ranks, handing on, turns [2.1] [2.2]; [0.2] to [0.4] for them."""

import itertools
import random
import unittest

from cutlinked.errors import ForestError, NoHouse, NoNumber, NoShape, NoTurn
from cutlinked.forests import Forest
from cutlinked.shapes import (
    handed_on, is_shape, potential, rank, resting, rows, told_forest, turned_up, weights,
)
from tests.helper import all_forests, frozen, large_forests, no_houses, no_integers, strange_things
from tests.shaping import (
    ADDED, LEFT, RIGHT, TURNED, UP, VALUE, closed, judged, opened, own_hand_on, own_potential, own_rank,
    own_rows, own_told, own_turn_up, own_weights, row_shape, some_shapes, tops,
)

A = Forest((None, 0, 1, 1), (5, 7, 2, 9))
# 2 is the top of the row of 0, 2, 1, turned; 3 hangs at 0; 4 stands alone.
FIVE = (
    (2, None, None, False, 0, 10),
    (2, None, None, True, 3, 20),
    (None, 0, 1, True, 100, 30),
    (0, None, None, False, 0, 40),
    (None, None, None, True, 7, 50),
)
LONE = ((None, None, None, False, 0, 0),)
OF_SHAPE = [rows, told_forest, weights, potential]
OF_HOUSE = [handed_on, turned_up]


def with_item(shape, house, place, item):
    """The shape with one thing otherwise."""
    part = shape[house]
    return shape[:house] + (part[:place] + (item,) + part[place + 1:],) + shape[house + 1:]


class ShapeCase(unittest.TestCase):
    def assert_judged(self, thing, due):
        held = frozen(thing)
        self.assertIs(is_shape(thing), due)
        if not due:
            for function in OF_SHAPE:
                self.check_error(NoShape, function, thing)
            for function in OF_HOUSE:
                self.check_error(NoShape, function, thing, 0)
                self.check_error(NoShape, function, thing, None)
        self.assertEqual(frozen(thing), held)

    def assert_raises(self, error, function, *passed):
        held = frozen(passed)
        self.check_error(error, function, *passed)
        self.assertEqual(frozen(passed), held)

    def check_error(self, error, function, *passed):
        with self.assertRaises(error) as caught:
            function(*passed)
        self.assertIs(caught.exception.__class__, error)
        self.assertEqual(vars(caught.exception), {})


class TestIsShape(ShapeCase):
    def test_right_ones(self):
        for shape in some_shapes() + [FIVE, LONE]:
            self.assertTrue(judged(shape))
            self.assert_judged(shape, True)

    def test_all_of_two_houses(self):
        nears = list(itertools.product((None, 0, 1), repeat=3))
        for first, second in itertools.product(nears, repeat=2):
            shape = (first + (False, 0, 1), second + (True, 2, -3))
            self.assert_judged(shape, judged(shape))

    def test_some_of_three_houses(self):
        chance = random.Random(31)
        right = 0
        for _ in range(6000):
            shape = tuple(tuple(chance.choice((None, None, 0, 1, 2)) for _ in range(3)) + (False, 0, 0) for _ in range(3))
            right += judged(shape)
            self.assertIs(is_shape(shape), judged(shape))
        self.assertGreater(right, 10)

    def test_one_near_otherwise(self):
        chance = random.Random(37)
        for shape in some_shapes():
            for _ in range(6):
                house, place = chance.randrange(len(shape)), chance.choice((UP, LEFT, RIGHT))
                near = chance.choice([None, house, len(shape), -1] + list(range(len(shape))))
                other = with_item(shape, house, place, near)
                self.assert_judged(other, judged(other))

    def test_nears_that_are_none(self):
        for thing in no_houses(5):
            if thing is not None:
                for house, place in itertools.product((0, 2, 4), (UP, LEFT, RIGHT)):
                    self.assertIs(is_shape(with_item(FIVE, house, place, thing)), False)
                    self.assert_raises(NoShape, told_forest, with_item(FIVE, house, place, thing))

    def test_flags_are_no_houses(self):
        pair = ((None, None, 1, False, 0, 0), (0, None, None, False, 0, 0))
        self.assert_judged(pair, True)
        self.assert_judged(with_item(pair, 0, RIGHT, True), False)
        self.assert_judged(with_item(pair, 1, UP, False), False)
        self.assert_judged(with_item(pair, 0, LEFT, False), False)

    def test_edges_of_sons(self):
        both = ((None, 1, 1, False, 0, 0), (0, None, None, False, 0, 0))
        self.assert_judged(both, False)
        self.assert_judged(with_item(FIVE, 2, LEFT, 1), False)
        self.assert_judged(with_item(FIVE, 2, RIGHT, 3), False)
        self.assert_judged(with_item(FIVE, 0, UP, None), False)
        self.assert_judged(with_item(FIVE, 0, UP, 1), False)
        self.assert_judged(with_item(FIVE, 4, LEFT, 4), False)
        # A son that is let go of hangs, which a shape may have.
        self.assert_judged(with_item(FIVE, 2, RIGHT, None), True)
        self.assert_judged(with_item(FIVE, 0, RIGHT, 3), True)

    def test_rings(self):
        self.assert_judged(((0, None, None, False, 0, 0),), False)
        self.assert_judged(((0, 0, None, False, 0, 0),), False)
        hanging = ((1, None, None, False, 0, 0), (0, None, None, False, 0, 0))
        self.assert_judged(hanging, False)
        self.assert_judged(((1, 1, None, False, 0, 0), (0, 0, None, False, 0, 0)), False)
        self.assert_judged(((1, 1, None, False, 0, 0), (0, None, None, False, 0, 0)), False)
        self.assert_judged(with_item(FIVE, 2, UP, 3), False)
        self.assert_judged(with_item(FIVE, 2, UP, 0), False)
        for many in (3, 64):
            ring = tuple(((house + 1) % many, None, None, False, 0, 0) for house in range(many))
            self.assert_judged(ring, False)
            self.assert_judged(with_item(ring, many - 1, UP, None), True)
        self.assert_judged(FIVE[:4] + ((4, None, None, False, 0, 0),), False)

    def test_turned_added_value(self):
        for thing in strange_things() + [0, 1, "True"]:
            if thing is not True and thing is not False:
                self.assert_judged(with_item(FIVE, 2, TURNED, thing), False)
        for thing in no_integers():
            self.assert_judged(with_item(FIVE, 2, ADDED, thing), False)
            self.assert_judged(with_item(FIVE, 4, VALUE, thing), False)
        for number in (0, -1, 10 ** 20 - 1, -10 ** 20 + 1, 10 ** 40):
            self.assert_judged(with_item(with_item(FIVE, 2, ADDED, number), 0, VALUE, -number), True)

    def test_tuples_and_their_lengths(self):
        self.assert_judged(list(FIVE), False)
        for house in range(5):
            part = FIVE[house]
            for other in (list(part), part[:5], part + (0,), (), None, part[0], (part,), dict(enumerate(part))):
                self.assert_judged(FIVE[:house] + (other,) + FIVE[house + 1:], False)

    def test_how_many(self):
        self.assert_judged((), False)
        for many in (1, 63, 64):
            self.assert_judged(LONE * many, True)
        for many in (65, 66, 3000):
            self.assert_judged(LONE * many, False)
            self.assert_judged(tuple((k - 1 if k else None, None, None, False, 0, 0) for k in range(many)), False)

    def test_strange_things(self):
        for thing in strange_things() + [0, 1, -1]:
            self.assert_judged(thing, False)
            self.assert_judged((thing,), False)
            self.assert_judged(LONE + (thing,), False)


class TestTelling(ShapeCase):
    def test_examples(self):
        s = resting(A)
        self.assertEqual(weights(s), (4, 3, 1, 1))
        self.assertEqual(potential(s), 3)
        self.assertEqual(rows(s), ((0,), (1,), (2,), (3,)))

    def test_plain(self):
        self.assertEqual(rows(FIVE), ((1, 2, 0), (3,), (4,)))
        self.assertEqual(told_forest(FIVE), Forest((2, None, 1, 0, None), (110, 120, 30, 40, 50)))
        self.assertEqual(weights(FIVE), (2, 1, 4, 1, 1))
        self.assertEqual(potential(FIVE), 3)

    def test_turned_within_turned(self):
        # 0 1 2 3 4 5 6 in plain order, 3 the top, 1 and 5 its sons.
        plain = [[1, None, None], [3, 0, 2], [1, None, None], [None, 1, 5], [5, None, None], [3, 4, 6], [5, None, None]]
        for turned, due in [((), (0, 1, 2, 3, 4, 5, 6)), ((3,), (6, 5, 4, 3, 2, 1, 0)), ((1,), (2, 1, 0, 3, 4, 5, 6)),
                            ((3, 5), (4, 5, 6, 3, 2, 1, 0)), ((1, 3, 5), (4, 5, 6, 3, 0, 1, 2)),
                            ((0, 2, 4, 6), (0, 1, 2, 3, 4, 5, 6))]:
            shape = tuple(tuple(near) + (house in turned, 0, 0) for house, near in enumerate(plain))
            self.assertEqual(rows(shape), (due,))
            self.assertEqual(told_forest(shape).parents, own_told(shape)[0])

    def test_added_counts_in_the_row_alone(self):
        shape = (
            (None, 1, None, False, 1000, 1),
            (0, None, 2, False, 100, 2),
            (1, None, None, False, 10, 3),
            (2, None, None, False, 5, 4),
            (1, None, None, True, -5, 5),
        )
        self.assertEqual(told_forest(shape), Forest((2, None, 1, 2, 1), (1, 1002, 1103, 4, 5)))

    def test_like_an_own_reading(self):
        for shape in some_shapes() + [FIVE, LONE]:
            held = frozen(shape)
            for _ in range(2):
                forest = told_forest(shape)
                self.assertIs(forest.__class__, Forest)
                self.assertEqual((forest.parents, forest.worths), own_told(shape))
                self.assertEqual(rows(shape), own_rows(shape))
                self.assertEqual(weights(shape), own_weights(shape))
                self.assertEqual(potential(shape), own_potential(shape))
            self.assertEqual(frozen(shape), held)

    def test_kinds(self):
        for shape in (FIVE, LONE):
            for thing in (rows(shape), rows(shape)[0], weights(shape), handed_on(shape, 0), resting(A), resting(A)[0]):
                self.assertIs(type(thing), tuple)
            self.assertIs(type(potential(shape)), int)

    def test_resting(self):
        self.assertEqual(resting(A), ((None, None, None, False, 0, 5), (0, None, None, False, 0, 7),
                                      (1, None, None, False, 0, 2), (1, None, None, False, 0, 9)))
        for forest in all_forests(3) + large_forests():
            held = frozen(forest)
            shape = resting(forest)
            self.assertTrue(is_shape(shape))
            self.assertEqual(told_forest(shape), forest)
            self.assertEqual(rows(shape), tuple((house,) for house in range(len(forest.parents))))
            self.assertEqual(shape, tuple((parent, None, None, False, 0, worth)
                                          for parent, worth in zip(forest.parents, forest.worths)))
            self.assertTrue(all(part[TURNED] is False and type(part[ADDED]) is int for part in shape))
            self.assertEqual(frozen(forest), held)


class TestRanks(ShapeCase):
    def test_small(self):
        self.assertEqual([rank(number) for number in (1, 2, 3, 4, 5, 7, 8, 64)], [0, 1, 1, 2, 2, 2, 3, 6])
        for number in range(1, 300):
            self.assertEqual(rank(number), own_rank(number))

    def test_at_powers_of_two(self):
        for power in range(1, 200):
            self.assertEqual(rank(2 ** power - 1), power - 1)
            self.assertEqual(rank(2 ** power), power)
            self.assertEqual(rank(2 ** power + 1), power)

    def test_of_many_figures(self):
        for number in (10 ** 19, 10 ** 20 - 1, 12345678901234567890):
            self.assertEqual(rank(number), own_rank(number))

    def test_no_number(self):
        for thing in no_integers() + [0, -1, -2, -10 ** 20 + 1]:
            self.assert_raises(NoNumber, rank, thing)

    def test_weights_are_of_all_that_come(self):
        line = resting(Forest((None,) + tuple(range(63)), (0,) * 64))
        self.assertEqual(weights(line), tuple(range(64, 0, -1)))
        self.assertEqual(potential(line), sum(own_rank(number) for number in range(1, 65)))
        star = resting(Forest((None,) + (0,) * 63, (0,) * 64))
        self.assertEqual(weights(star), (64,) + (1,) * 63)
        self.assertEqual(potential(star), 6)
        self.assertEqual(weights(LONE * 64), (1,) * 64)
        self.assertEqual(potential(LONE * 64), 0)


class TestHandingOn(ShapeCase):
    def test_plain(self):
        self.assertEqual(handed_on(FIVE, 2), (
            (2, None, None, True, 100, 110), (2, None, None, False, 103, 120), (None, 1, 0, False, 0, 30),
            FIVE[3], FIVE[4]))
        self.assertEqual(handed_on(FIVE, 4), FIVE[:4] + ((None, None, None, False, 0, 50),))
        self.assertEqual(handed_on(FIVE, 1), FIVE[:1] + ((2, None, None, False, 0, 20),) + FIVE[2:])
        self.assertEqual(handed_on(FIVE, 0), FIVE)
        self.assertEqual(handed_on(FIVE, 3), FIVE)

    def test_one_son_and_one_thing_that_waits(self):
        turned = ((None, 1, None, True, 0, 1), (0, None, None, False, 2, 3))
        self.assertEqual(handed_on(turned, 0), ((None, None, 1, False, 0, 1), (0, None, None, True, 2, 3)))
        added = ((None, None, 1, False, 4, 1), (0, None, None, True, 2, 3))
        self.assertEqual(handed_on(added, 0), ((None, None, 1, False, 0, 1), (0, None, None, True, 6, 7)))
        # One that only hangs there is no son, and gets nothing.
        hangs = ((None, None, None, True, 4, 1), (0, None, None, True, 2, 3))
        self.assertEqual(handed_on(hangs, 0), ((None, None, None, False, 0, 1), (0, None, None, True, 2, 3)))

    def test_all_houses(self):
        for shape in some_shapes():
            for house in range(0, len(shape), 1 + len(shape) // 8):
                held = frozen(shape)
                parts = opened(shape)
                own_hand_on(parts, house)
                behind = handed_on(shape, house)
                self.assertEqual(frozen(behind), frozen(closed(parts)))
                self.assertTrue(is_shape(behind))
                self.assertEqual(told_forest(behind), told_forest(shape))
                self.assertEqual(handed_on(behind, house), behind)
                self.assertEqual(weights(behind), weights(shape))
                self.assertEqual(frozen(shape), held)


class TestTurningUp(ShapeCase):
    def test_left_and_right(self):
        plain = ((None, 1, 2, False, 0, 0), (0, 3, 4, False, 0, 1), (0, 5, 6, False, 0, 2)) + tuple(
            ((k - 1) // 2, None, None, False, 0, k) for k in range(3, 7))
        self.assertEqual(rows(plain), ((3, 1, 4, 0, 5, 2, 6),))
        self.assertEqual(turned_up(plain, 1), (
            (1, 4, 2, False, 0, 0), (None, 3, 0, False, 0, 1), plain[2], plain[3], (0, None, None, False, 0, 4),
            plain[5], plain[6]))
        self.assertEqual(turned_up(plain, 2), (
            (2, 1, 5, False, 0, 0), plain[1], (None, 0, 6, False, 0, 2), plain[3], plain[4],
            (0, None, None, False, 0, 5), plain[6]))
        self.assertEqual(turned_up(plain, 4), (
            (None, 4, 2, False, 0, 0), (4, 3, None, False, 0, 1), plain[2], plain[3], (0, 1, None, False, 0, 4),
            plain[5], plain[6]))
        self.assertEqual(turned_up(plain, 5)[0], (None, 1, 5, False, 0, 0))

    def test_both_hand_on(self):
        self.assertEqual(turned_up(FIVE, 0), (
            (None, 2, None, False, 0, 110), (2, None, None, False, 103, 120), (0, 1, None, False, 0, 30),
            FIVE[3], FIVE[4]))
        self.assertEqual(turned_up(FIVE, 1), (
            (2, None, None, True, 100, 110), (None, None, 2, False, 0, 120), (1, None, 0, False, 0, 30),
            FIVE[3], FIVE[4]))

    def test_what_is_above_does_not_hand_on(self):
        line = row_shape(4, (LEFT,), range(4), range(4))
        behind = turned_up(line, 3)
        self.assertEqual(behind[:2], ((None, 1, None, True, 1, 0), (0, 3, None, True, 10, 1)))

    def test_as_the_one_ahead_hung(self):
        # 1 and its son 2 hang at 0; the top 3 has an up, 0, whose left is another house.
        hung = ((None, 4, None, False, 0, 0), (0, None, 2, False, 0, 1), (1, None, None, False, 0, 2),
                (0, None, None, False, 0, 3), (0, None, None, False, 0, 4))
        self.assertEqual(turned_up(hung, 2), (
            hung[0], (2, None, None, False, 0, 1), (0, 1, None, False, 0, 2), hung[3], hung[4]))

    def check_turn(self, shape, house):
        held = frozen(shape)
        parts = opened(shape)
        own_turn_up(parts, house)
        behind = turned_up(shape, house)
        self.assertEqual(frozen(behind), frozen(closed(parts)))
        self.assertTrue(is_shape(behind))
        self.assertEqual(told_forest(behind), told_forest(shape))
        same = [at for at in range(len(shape)) if at not in (house, shape[house][UP])]
        self.assertEqual([weights(behind)[at] for at in same], [weights(shape)[at] for at in same])
        self.assertEqual(frozen(shape), held)

    def test_every_place_of_the_up_and_its_son(self):
        for place, side, flags, many in itertools.product(
                ("free", "hung", LEFT, RIGHT), (LEFT, RIGHT), itertools.product((False, True), repeat=4), range(4)):
            # 0 is above, 1 is the up, 2 the house, 3 its brother, 4 and 5 may be its sons.
            parts = [[None, None, None, flag, 10 ** at, at] for at, flag in enumerate(flags + (True, False))]
            nears = [(2, 1, side), (3, 1, LEFT + RIGHT - side)]
            nears += [(4, 2, LEFT)] * (many in (1, 3)) + [(5, 2, RIGHT)] * (many in (2, 3))
            if place != "free":
                parts[1][UP] = 0
                nears += [(1, 0, place)] * (place != "hung")
            for son, up, at in nears:
                parts[son][UP] = up
                parts[up][at] = son
            self.check_turn(closed(parts), 2)

    def test_all_houses(self):
        for shape in some_shapes():
            at_top = tops(shape)
            for house in range(0, len(shape), 1 + len(shape) // 8):
                if house in at_top:
                    self.assert_raises(NoTurn, turned_up, shape, house)
                else:
                    self.check_turn(shape, house)


class TestErrors(ShapeCase):
    def test_no_house(self):
        for shape in (FIVE, LONE, resting(A)):
            for thing in no_houses(len(shape)):
                for function in OF_HOUSE:
                    self.assert_raises(NoHouse, function, shape, thing)

    def test_no_turn_for_tops(self):
        for house in (2, 3, 4):
            self.assert_raises(NoTurn, turned_up, FIVE, house)
        for house in range(4):
            self.assert_raises(NoTurn, turned_up, resting(A), house)
        self.assert_raises(NoTurn, turned_up, LONE, 0)

    def test_no_shape_ahead(self):
        for thing in strange_things() + [FIVE[:2], FIVE[1:], list(FIVE)]:
            for house in (None, True, -1, 5, "0", 0):
                for function in OF_HOUSE:
                    self.assert_raises(NoShape, function, thing, house)

    def test_caught_as_forest_error(self):
        for call in (lambda: rows(0), lambda: handed_on(LONE, 1), lambda: turned_up(LONE, 0), lambda: rank(0)):
            with self.assertRaises(ForestError):
                call()


if __name__ == "__main__":
    unittest.main()
