"""Roads [5.1], and the general rules [0.2] to [0.4] for them."""

import random
import unittest

from cutlinked.errors import ForestError, Full, NoHouse, NoNumber, NoWeight
from cutlinked.roads import Roads
from tests.helper import frozen, no_houses, no_integers, strange_things
from tests.shaping import own_rank


def rank_of(ties, number):
    """What ties are ordered by."""
    return (ties[number][2], number)


def led_to(ties, numbers, start):
    """For each house that these ties lead to from start, the numbers of those on one way there."""
    found = {start: []}
    front = [start]
    for house in front:
        for number in numbers:
            pair = ties[number][:2]
            if house in pair:
                near = pair[0] + pair[1] - house
                if near not in found:
                    found[near] = found[house] + [number]
                    front.append(near)
    return found


def least_forest(ties):
    """The ties between whose ends no way of ties of lesser ranks leads."""
    return tuple(number for number in range(len(ties)) if ties[number][1] not in led_to(
        ties, [other for other in range(len(ties)) if rank_of(ties, other) < rank_of(ties, number)], ties[number][0]))


def state_of(roads):
    """All that Roads tell of themselves without reaching."""
    return (roads.ties(), roads.kept(), roads.whole(), roads.spent(), roads.bound())


class RoadsCase(unittest.TestCase):
    def check(self, roads, ties):
        """Look at what is promised of roads to which these ties came."""
        kept = least_forest(ties)
        self.assertEqual(frozen(roads.ties()), frozen(ties))
        self.assertEqual(frozen(roads.kept()), frozen(kept))
        self.assertEqual(roads.whole(), sum(ties[number][2] for number in kept))
        self.assertLessEqual(roads.spent(), roads.bound())

    def check_ways(self, roads, ties, pairs):
        """Ask about pairs of houses."""
        kept = least_forest(ties)
        for one, other in pairs:
            line = led_to(ties, kept, one).get(other)
            spent = roads.spent()
            self.assertIs(roads.joined(one, other), line is not None)
            heaviest = max(line or [None], key=lambda number: None if number is None else rank_of(ties, number))
            self.assertEqual(frozen(roads.heaviest(one, other)), frozen(heaviest))
            self.assertGreaterEqual(roads.spent(), spent)
        self.check(roads, ties)

    def let_come(self, roads, ties, tie):
        """Let a tie come, and look at which is left out."""
        ahead, spent = least_forest(ties), roads.spent()
        told = roads.come(*tie)
        ties.append(tie)
        (out,) = set(ahead + (len(ties) - 1,)) - set(least_forest(ties)) or {None}
        self.assertEqual(frozen(told), frozen(out))
        self.assertGreaterEqual(roads.spent(), spent)
        self.check(roads, ties)

    def assert_raises(self, error, roads, method, *passed):
        held = state_of(roads), frozen(passed)
        with self.assertRaises(error) as caught:
            getattr(roads, method)(*passed)
        self.assertIs(caught.exception.__class__, error)
        self.assertEqual((state_of(roads), frozen(passed)), held)


class TestMaking(RoadsCase):
    def test_nothing_yet(self):
        for many, most in [(1, 0), (1, 63), (32, 32), (32, 0), (5, 3), (31, 33)]:
            roads = Roads(many, most)
            self.assertEqual(state_of(roads), ([], (), 0, 0, 0))
            self.assertIs(roads.joined(0, 0), True)
            self.assertIsNone(roads.heaviest(many - 1, many - 1))
            self.assertIs(roads.joined(0, many - 1), many == 1)

    def test_no_number(self):
        bad = [(0, 1), (33, 1), (33, 0), (-1, 1), (64, 0), (32, 33), (1, 64), (2, 63), (5, -1), (5, 10 ** 19), (65, 0)]
        bad += [(thing, 1) for thing in no_integers()] + [(1, thing) for thing in no_integers()]
        bad += [(thing, thing) for thing in no_integers()] + [(thing, 64) for thing in no_integers()]
        for many, most in bad:
            held = frozen((many, most))
            with self.assertRaises(NoNumber) as caught:
                Roads(many, most)
            self.assertIs(caught.exception.__class__, NoNumber)
            self.assertEqual(frozen((many, most)), held)

    def test_caught_as_forest_error(self):
        for call in (lambda: Roads(0, 0), lambda: Roads(1, 1).come(0, 0, 0), lambda: Roads(1, 1).joined(0, 1)):
            with self.assertRaises(ForestError):
                call()


class TestByHand(RoadsCase):
    def test_plain(self):
        roads = Roads(4, 9)
        self.assertIsNone(roads.come(0, 1, 5))
        self.assertIsNone(roads.come(2, 1, 7))
        self.assertEqual(roads.come(0, 2, 6), 1)
        self.assertEqual(roads.come(0, 2, 6), 3)
        self.assertEqual(roads.come(2, 0, -9), 2)
        self.assertIsNone(roads.come(3, 0, 0))
        self.assertEqual(roads.kept(), (0, 4, 5))
        self.assertEqual(roads.whole(), -4)
        self.assertEqual(roads.ties(), [(0, 1, 5), (2, 1, 7), (0, 2, 6), (0, 2, 6), (2, 0, -9), (3, 0, 0)])
        self.assertEqual([roads.heaviest(1, house) for house in range(4)], [0, None, 0, 0])
        self.assertEqual([roads.heaviest(2, house) for house in range(4)], [4, 0, None, 5])

    def test_weights_alike(self):
        roads = Roads(3, 6)
        for at, (one, other) in enumerate([(0, 1), (1, 2), (2, 0), (0, 1)]):
            self.assertEqual(roads.come(one, other, 3), None if at < 2 else at)
        self.assertEqual(roads.heaviest(0, 2), 1)
        self.assertEqual(roads.heaviest(1, 0), 0)
        self.assertEqual(roads.come(2, 0, 2), 1)
        self.assertEqual(roads.kept(), (0, 4))

    def test_ties_between_a_like_pair(self):
        roads = Roads(2, 5)
        self.assertEqual([roads.come(0, 1, weight) for weight in (4, 5, 4, 3, 3)], [None, 1, 2, 0, 4])
        self.assertEqual((roads.kept(), roads.whole(), roads.heaviest(1, 0)), ((3,), 3, 3))

    def test_weights_of_many_figures(self):
        roads = Roads(3, 9)
        most = 10 ** 20 - 1
        self.assertEqual([roads.come(0, 1, most), roads.come(1, 2, -most), roads.come(2, 0, most - 1)], [None, None, 0])
        self.assertEqual([roads.come(0, 1, -most), roads.come(0, 2, -most - 1)], [2, 3])
        self.assertEqual((roads.kept(), roads.whole()), ((1, 4), -2 * most - 1))
        self.assertEqual(roads.heaviest(0, 1), 1)
        lowest = Roads(2, 2)
        lowest.come(0, 1, -10 ** 30 + 1)
        self.assertEqual(lowest.heaviest(0, 1), 0)
        self.assertEqual(lowest.come(0, 1, 10 ** 30 - 1), 1)

    def test_bound(self):
        roads = Roads(3, 4)
        one = 40 * (30 * 2 + 7)
        roads.come(0, 1, 1)
        self.assertEqual(roads.bound(), one + 20)
        roads.joined(0, 1)
        roads.heaviest(0, 2)
        roads.heaviest(0, 0)
        roads.joined(1, 1)
        self.assertEqual(roads.bound(), 5 * one + 20)
        roads.come(0, 1, 1)
        self.assertEqual(roads.bound(), 6 * one + 40)
        roads.ties(), roads.kept(), roads.whole(), roads.spent(), roads.copy()
        self.assertEqual(roads.bound(), 6 * one + 40)
        for many, most in [(1, 0), (32, 32), (1, 1), (3, 5)]:
            other = Roads(many, most)
            other.joined(0, 0)
            self.assertEqual(other.bound(), 40 * (30 * own_rank(many + most) + 7))

    def test_kinds(self):
        roads = Roads(3, 3)
        roads.come(0, 1, 1)
        for told, kind in [(roads.ties(), list), (roads.ties()[0], tuple), (roads.kept(), tuple), (roads.whole(), int),
                           (roads.spent(), int), (roads.bound(), int), (roads.joined(0, 1), bool),
                           (roads.heaviest(0, 1), int), (roads.copy(), Roads), (roads.come(1, 0, 2), int)]:
            self.assertIs(type(told), kind)


class TestDrawn(RoadsCase):
    def test_ties_that_come(self):
        chance = random.Random(73)
        for many, most, spread in [(2, 12, 3), (3, 14, 2), (4, 20, 3), (5, 24, 50), (6, 30, 1), (12, 40, 5), (32, 32, 4),
                                   (20, 44, 10 ** 20), (8, 20, 10 ** 20)]:
            roads, ties = Roads(many, most), []
            for _ in range(most):
                one, other = chance.sample(range(many), 2)
                self.let_come(roads, ties, (one, other, chance.randrange(-spread + 1, spread)))
                pairs = [(chance.randrange(many), chance.randrange(many)) for _ in range(3)]
                self.check_ways(roads, ties, pairs)
            self.assert_raises(Full, roads, "come", 0, 1, 0)
            self.check_ways(roads, ties, [(one, other) for one in range(min(many, 8)) for other in range(min(many, 8))])

    def test_long_lines(self):
        for step in (1, -1):
            roads, ties = Roads(32, 32), []
            for house in range(31):
                self.let_come(roads, ties, (house, house + 1, step * house))
            self.check_ways(roads, ties, [(0, 31), (31, 0), (15, 16), (3, 3)])
            self.let_come(roads, ties, (31, 0, 0))
            self.check_ways(roads, ties, [(0, 31), (31, 0), (15, 16), (30, 1)])

    def test_many_asks_of_a_line(self):
        roads, chance = Roads(32, 32), random.Random(79)
        for house in range(31):
            roads.come(house, house + 1, 0)
        for _ in range(150):
            roads.joined(chance.randrange(32), chance.randrange(32))
        for _ in range(60):
            self.assertIsNotNone(roads.heaviest(0, 1 + chance.randrange(31)))
        self.assertLessEqual(roads.spent(), roads.bound())


class TestRefused(RoadsCase):
    def made(self):
        roads = Roads(4, 3)
        roads.come(0, 1, 5)
        roads.come(1, 2, 6)
        return roads

    def test_no_house(self):
        roads = self.made()
        for thing in no_houses(4):
            for method, rest in [("come", (0,)), ("joined", ()), ("heaviest", ())]:
                self.assert_raises(NoHouse, roads, method, thing, 0, *rest)
                self.assert_raises(NoHouse, roads, method, 0, thing, *rest)
                self.assert_raises(NoHouse, roads, method, thing, thing, *rest)
        for house in range(4):
            self.assert_raises(NoHouse, roads, "come", house, house, 1)

    def test_no_house_that_stands_for_a_tie(self):
        roads = self.made()
        for house in (4, 5, 6):
            self.assert_raises(NoHouse, roads, "come", 0, house, 1)
            self.assert_raises(NoHouse, roads, "joined", house, house)

    def test_no_weight(self):
        roads = self.made()
        for thing in no_integers():
            self.assert_raises(NoWeight, roads, "come", 0, 3, thing)

    def test_full(self):
        roads = self.made()
        roads.come(3, 0, 0)
        self.assert_raises(Full, roads, "come", 0, 2, -10)
        self.assert_raises(Full, roads, "come", 2, 3, 10)
        self.assert_raises(Full, Roads(2, 0), "come", 0, 1, 1)

    def test_their_order(self):
        full, roads = Roads(2, 0), self.made()
        for thing in (None, "5", True, [1]):
            for other in (full, roads):
                self.assert_raises(NoHouse, other, "come", 0, 0, thing)
                self.assert_raises(NoHouse, other, "come", thing, 1, thing)
                self.assert_raises(NoHouse, other, "come", 0, thing, thing)
                self.assert_raises(NoWeight, other, "come", 0, 1, thing)
        self.assert_raises(NoHouse, full, "come", 0, 0, 1)

    def test_refused_calls_leave_all_as_it_was(self):
        roads, other = self.made(), self.made()
        for _ in range(3):
            self.assert_raises(NoHouse, roads, "come", 0, 0, 1)
            self.assert_raises(NoWeight, roads, "come", 0, 2, None)
            self.assert_raises(NoHouse, roads, "heaviest", 0, 4)
        self.assertEqual(roads.come(0, 2, 1), other.come(0, 2, 1))
        self.assertEqual(state_of(roads), state_of(other))


class TestApart(RoadsCase):
    def test_copies(self):
        roads = Roads(4, 5)
        ties = [(0, 1, 5), (1, 2, 6)]
        for tie in ties:
            roads.come(*tie)
        roads.joined(0, 3)
        copied = roads.copy()
        self.assertEqual(state_of(copied), state_of(roads))
        held = state_of(roads)
        more = list(ties)
        for tie in [(2, 0, 1), (3, 0, 2), (1, 3, 0)]:
            self.let_come(copied, more, tie)
        self.assertEqual(state_of(roads), held)
        self.assert_raises(Full, copied, "come", 0, 1, 0)
        held = state_of(copied)
        self.let_come(roads, ties, (3, 2, 9))
        self.check_ways(roads, ties, [(0, 3), (3, 1)])
        self.assertEqual(state_of(copied), held)

    def test_what_is_told_is_new(self):
        roads = Roads(2, 2)
        roads.come(0, 1, 5)
        ties = roads.ties()
        ties.append(None)
        ties[0] = None
        self.assertEqual(roads.ties(), [(0, 1, 5)])
        self.assertIsNot(roads.ties(), roads.ties())

    def test_equal_to_nothing_else(self):
        roads = Roads(2, 1)
        for thing in strange_things():
            self.assertFalse(roads == thing)


if __name__ == "__main__":
    unittest.main()
