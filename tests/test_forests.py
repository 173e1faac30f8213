"""Plain forests and the walker [1.1], and the general rules [0.2] to [0.4] for them."""

import copy
import itertools
import unittest

from cutlinked.errors import BadForest, ForestError, NoHouse
from cutlinked.forests import Forest, below, common, depth, many, root, way
from tests.helper import (
    all_forests, built_in_things, frozen, large_forests, leads_to_roots, no_houses, root_among,
    strange_things, walked,
)

A = Forest((None, 0, 1, 1), (5, 7, 2, 9))


class ForestCase(unittest.TestCase):
    def assert_bad(self, part, parents, worths):
        held = frozen((parents, worths))
        with self.assertRaises(BadForest) as caught:
            Forest(parents, worths)
        self.assertIs(caught.exception.__class__, BadForest)
        self.assertEqual(caught.exception.part, part)
        self.assertEqual(frozen((parents, worths)), held)


class TestForest(ForestCase):
    def test_keeps_its_parts(self):
        self.assertEqual(A.parents, (None, 0, 1, 1))
        self.assertEqual(A.worths, (5, 7, 2, 9))
        self.assertEqual(sorted(vars(A)), ["parents", "worths"])

    def test_least_and_most_houses(self):
        for row in [(None,) * 64, (None,) + tuple(range(63)), tuple(range(1, 64)) + (None,), (63,) * 63 + (None,)]:
            self.assertEqual(Forest(row, (0,) * 64).parents, row)
        self.assertEqual(many(Forest((None,), (0,))), 1)
        self.assert_bad("parents", (), ())
        self.assert_bad("parents", (None,) * 65, (0,) * 65)
        self.assert_bad("parents", (None,) + tuple(range(64)), (0,) * 65)
        self.assert_bad("parents", (None,) * 20000, (0,) * 20000)

    def test_rings(self):
        self.assert_bad("parents", (0,), (1,))
        self.assert_bad("parents", (None, 1), (1, 2))
        self.assert_bad("parents", (1, 0), (1, 2))
        self.assert_bad("parents", (None, 2, 1), (1, 2, 3))
        self.assert_bad("parents", (1, 2, 0, None), (1, 2, 3, 4))
        self.assert_bad("parents", (None, 0, 3, 4, 2, 2), (1,) * 6)
        for size in range(1, 65):
            ring = tuple((house + 1) % size for house in range(size))
            self.assert_bad("parents", ring, (0,) * size)
            self.assert_bad("parents", ((None,) + tuple(near + 1 for near in ring))[:64], (0,) * min(size + 1, 64))

    def test_just_those_that_come_to_roots(self):
        for size in (1, 2, 3, 4):
            for row in itertools.product([None] + list(range(size)), repeat=size):
                if leads_to_roots(row):
                    self.assertEqual(Forest(row, (0,) * size).parents, row)
                else:
                    self.assert_bad("parents", row, (0,) * size)

    def test_parents_that_are_no_houses(self):
        for thing in no_houses(3):
            if thing is None:
                continue
            for place in range(3):
                row = [None, None, None]
                row[place] = thing
                self.assert_bad("parents", tuple(row), (1, 2, 3))
        self.assert_bad("parents", (None, False), (1, 2))
        self.assert_bad("parents", (True, None), (1, 2))
        self.assert_bad("parents", (None, 2), (1, 2))
        self.assert_bad("parents", (None, -1), (1, 2))
        self.assert_bad("parents", (None, -2), (1, 2))
        self.assert_bad("parents", (1, 5), (1, 2))

    def test_parents_that_are_no_tuple_of_them(self):
        for thing in strange_things():
            # The tuple of one None is what parents may be.
            if frozen(thing) != frozen((None,)):
                self.assert_bad("parents", thing, (0,))
        self.assert_bad("parents", [None, 0], (1, 2))
        self.assert_bad("parents", range(0), ())
        self.assert_bad("parents", 0, (0,))

    def test_worths_that_are_none(self):
        for thing in strange_things():
            self.assert_bad("worths", (None, 0), thing)
            self.assert_bad("worths", (None, 0), (1, thing))
            self.assert_bad("worths", (None, 0), (thing, 1))
        self.assert_bad("worths", (None, 0), [1, 2])
        self.assert_bad("worths", (None, 0), (1,))
        self.assert_bad("worths", (None, 0), (1, 2, 3))
        self.assert_bad("worths", (None, 0), ())
        self.assert_bad("worths", (None, 0), (1, True))
        self.assert_bad("worths", (None, 0), (False, 1))
        self.assert_bad("worths", (None, 0), (1, None))
        self.assert_bad("worths", (None, 0), 1)
        self.assert_bad("worths", (None,) * 64, (0,) * 63)

    def test_any_integer_is_a_value(self):
        for worth in (0, -1, 1, 99999999999999999999, -99999999999999999999, 10 ** 30):
            self.assertEqual(Forest((None,), (worth,)).worths, (worth,))

    def test_parents_ahead_of_worths(self):
        self.assert_bad("parents", [None], [0])
        self.assert_bad("parents", (0,), ())
        self.assert_bad("parents", (), ())
        self.assert_bad("parents", None, None)
        self.assert_bad("parents", (None, 2), (1, True))
        for thing in strange_things():
            self.assert_bad("parents", (None, -1), thing)

    def test_caught_as_forest_error(self):
        with self.assertRaises(ForestError):
            Forest((None,), (None,))


class TestEquality(unittest.TestCase):
    def test_by_both_parts(self):
        self.assertTrue(A == Forest((None, 0, 1, 1), (5, 7, 2, 9)))
        self.assertFalse(A != Forest((None, 0, 1, 1), (5, 7, 2, 9)))
        self.assertTrue(A == A)
        self.assertFalse(A == Forest((None, 0, 1, 2), (5, 7, 2, 9)))
        self.assertFalse(A == Forest((None, 0, 1, 1), (5, 7, 2, 8)))
        self.assertTrue(A != Forest((None, 0, 1, 1), (5, 7, 2, 8)))
        self.assertFalse(Forest((None,), (0,)) == Forest((None, None), (0, 0)))

    def test_same_only_where_the_parts_are(self):
        forests = all_forests(3) + [Forest(forest.parents, (1, 1, 1)) for forest in all_forests(3)]
        for at, forest in enumerate(forests):
            for other_at, other in enumerate(forests):
                self.assertIs(forest == other, at == other_at)
                self.assertIs(forest != other, at != other_at)

    def test_equal_to_nothing_of_another_kind(self):
        lone = Forest((None,), (5,))
        others = [thing for thing in strange_things() if not isinstance(thing, Forest)]
        for thing in others + [((None,), (5,)), [(None,), (5,)], {"parents": (None,), "worths": (5,)}, 5, "Forest"]:
            self.assertIs(lone == thing, False)
            self.assertIs(thing == lone, False)
            self.assertIs(lone != thing, True)

    def test_equal_to_no_look_alike(self):
        class Other:
            def __init__(self):
                self.parents = A.parents
                self.worths = A.worths

        self.assertFalse(A == Other())
        self.assertFalse(Other() == A)


class TestWalker(unittest.TestCase):
    def test_examples(self):
        self.assertEqual(way(A, 2, 3), (2, 1, 3))
        self.assertEqual(common(A, 2, 3), 1)
        self.assertEqual(below(A, 1), (1, 2, 3))

    def test_plain(self):
        self.assertEqual(many(A), 4)
        self.assertEqual([root(A, house) for house in range(4)], [0, 0, 0, 0])
        self.assertEqual([depth(A, house) for house in range(4)], [0, 1, 2, 2])
        self.assertEqual(below(A, 0), (0, 1, 2, 3))
        self.assertEqual(below(A, 3), (3,))
        self.assertEqual(way(A, 0, 2), (0, 1, 2))
        self.assertEqual(way(A, 2, 0), (2, 1, 0))
        self.assertEqual(way(A, 2, 2), (2,))
        self.assertEqual(common(A, 2, 2), 2)
        self.assertEqual(common(A, 1, 3), 1)
        self.assertEqual(common(A, 3, 1), 1)
        self.assertEqual(common(A, 0, 3), 0)

    def test_not_joined(self):
        apart = Forest((None, 0, None, 2), (1, 2, 3, 4))
        for one, other in [(0, 2), (1, 3), (3, 1), (0, 3), (2, 1)]:
            self.assertIsNone(way(apart, one, other))
            self.assertIsNone(common(apart, one, other))

    def test_below_is_ascending(self):
        self.assertEqual(below(Forest((3, 3, None, 2, 0), (0,) * 5), 3), (0, 1, 3, 4))

    def test_a_line_of_most_houses(self):
        line = Forest((None,) + tuple(range(63)), (0,) * 64)
        self.assertEqual(depth(line, 63), 63)
        self.assertEqual(root(line, 63), 0)
        self.assertEqual(way(line, 63, 0), tuple(range(63, -1, -1)))
        self.assertEqual(below(line, 0), tuple(range(64)))
        self.assertEqual(common(line, 63, 40), 40)

    def check_like_walking(self, forest):
        houses = range(len(forest.parents))
        self.assertEqual(many(forest), len(houses))
        ways = {house: walked(forest, house) for house in houses}
        roots = {house: root_among(forest, ways[house]) for house in houses}
        to_root = {house: ways[house][roots[house]] for house in houses}
        for one in houses:
            self.assertEqual(root(forest, one), roots[one])
            self.assertEqual(depth(forest, one), len(to_root[one]) - 1)
            self.assertEqual(below(forest, one), tuple(house for house in houses if one in to_root[house]))
            for other in houses:
                self.assertEqual(way(forest, one, other), ways[one].get(other))
                both = [house for house in houses if house in to_root[one] and house in to_root[other]]
                deepest = max(both, key=lambda house: len(to_root[house]), default=None)
                self.assertEqual(common(forest, one, other), deepest)

    def test_like_walking_from_house_to_house(self):
        for size in (1, 2, 3, 4):
            for forest in all_forests(size):
                self.check_like_walking(forest)

    def test_like_walking_in_large_forests(self):
        for forest in large_forests():
            self.check_like_walking(forest)

    def test_kinds_of_answers(self):
        self.assertIs(type(way(A, 0, 1)), tuple)
        self.assertIs(type(below(A, 0)), tuple)
        for answer in (many(A), root(A, 3), depth(A, 0), depth(A, 3), common(A, 0, 0)):
            self.assertIs(type(answer), int)
        for house in below(A, 0) + way(A, 2, 3):
            self.assertIs(type(house), int)

    def test_values_count_for_nothing(self):
        other = Forest(A.parents, (0, 0, 0, 0))
        self.assertEqual([way(A, 2, k) for k in range(4)], [way(other, 2, k) for k in range(4)])


class TestNoHouse(unittest.TestCase):
    def assert_no_house(self, function, *passed):
        with self.assertRaises(NoHouse) as caught:
            function(*passed)
        self.assertIs(caught.exception.__class__, NoHouse)
        self.assertEqual(vars(caught.exception), {})

    def test_of_one_house(self):
        for forest in (A, Forest((None, None), (1, 2)), Forest((None,), (0,))):
            for thing in no_houses(many(forest)):
                for function in (root, depth, below):
                    self.assert_no_house(function, forest, thing)

    def test_of_either_house(self):
        for forest in (A, Forest((None, None), (1, 2)), Forest((None,), (0,))):
            for thing in no_houses(many(forest)):
                for function in (way, common):
                    self.assert_no_house(function, forest, thing, 0)
                    self.assert_no_house(function, forest, 0, thing)
                    self.assert_no_house(function, forest, thing, thing)

    def test_a_flag_is_no_house(self):
        for flag in (True, False):
            for function in (root, depth, below):
                self.assert_no_house(function, A, flag)
            for function in (way, common):
                self.assert_no_house(function, A, flag, 0)
                self.assert_no_house(function, A, 0, flag)

    def test_beyond_most_houses(self):
        full = Forest((None,) * 64, (0,) * 64)
        self.assertEqual(root(full, 63), 63)
        for house in (64, -1, -64):
            for function in (root, depth, below):
                self.assert_no_house(function, full, house)


class TestUnchanged(unittest.TestCase):
    def test_forest_stays_and_answers_are_alike(self):
        for forest in all_forests(3) + large_forests()[:4]:
            held = copy.deepcopy((forest.parents, forest.worths))
            last = many(forest) - 1
            first_answers = [root(forest, last), depth(forest, last), below(forest, 0), way(forest, 0, last),
                             common(forest, 0, last)]
            for thing in built_in_things():
                for function in (root, depth, below):
                    with self.assertRaises(NoHouse):
                        function(forest, thing)
            answers = [root(forest, last), depth(forest, last), below(forest, 0), way(forest, 0, last),
                       common(forest, 0, last)]
            self.assertEqual(answers, first_answers)
            self.assertEqual((forest.parents, forest.worths), held)

    def test_things_stay(self):
        for thing in strange_things():
            held = frozen(thing)
            with self.assertRaises(NoHouse):
                way(A, 0, thing)
            self.assertEqual(frozen(thing), held)


if __name__ == "__main__":
    unittest.main()
