"""Reels [7.3], and the general rules [0.2] to [0.4] for them."""

import random
import unittest

from cutlinked.deeds import behind, is_deed
from cutlinked.errors import BadDeeds, ForestError, NoMoment, NoNumber
from cutlinked.films import Reel
from cutlinked.forests import Forest
from cutlinked.kepts import Kept
from tests.helper import frozen, no_integers, some_deed, some_parents, strange_things

A = Forest((None, 0, 1, 1), (5, 7, 2, 9))
DEEDS = (("cut", 1), ("link", 0, 3), ("put", 2, -50), ("add", 2, 0, 5), ("turn", 1))


def some_row(chance, forest, many):
    """So many deeds that can be done one behind the other."""
    deeds = []
    while len(deeds) < many:
        deed = some_deed(chance, forest)
        if is_deed(forest, deed):
            forest = behind(forest, deed)
            deeds.append(deed)
    return deeds


def states_of(forest, deeds):
    """What a Kept tells behind each number of the deeds."""
    kept = Kept(forest)
    found = [(frozen(kept.forest()), kept.shape(), kept.spent())]
    for deed in deeds:
        kept.deed(deed)
        found.append((frozen(kept.forest()), kept.shape(), kept.spent()))
    return found


def state_of(reel):
    """All that a Reel tells of itself."""
    return (reel.stands(), frozen(reel.forest_now()), reel.shape_now(), reel.spent_now(), reel.kept(), reel.worked())


class OwnReel:
    """Where a Reel stands, what it keeps, and what the last seek did, by the words of the document."""

    def __init__(self, every):
        self.every, self.stands, self.kept, self.worked = every, 0, {0}, 0

    def seek(self, at):
        ahead = max(number for number in self.kept | {self.stands} if number <= at)
        self.worked = 0
        while ahead < at:
            ahead += 1
            self.worked += 1
            if ahead % self.every == 0:
                self.kept.add(ahead)
        self.stands = at


class ReelCase(unittest.TestCase):
    def check(self, reel, own, states):
        due = (own.stands,) + states[own.stands] + (tuple(sorted(own.kept)), own.worked)
        self.assertEqual(frozen(state_of(reel)), frozen(due))

    def check_no_moment(self, reel, at):
        held = state_of(reel), frozen(at), frozen(reel)
        with self.assertRaises(NoMoment) as caught:
            reel.seek(at)
        self.assertIs(caught.exception.__class__, NoMoment)
        self.assertEqual((state_of(reel), frozen(at), frozen(reel)), held)

    def check_none(self, error, field, *args):
        held = frozen(args)
        with self.assertRaises(error) as caught:
            Reel(*args)
        self.assertIs(caught.exception.__class__, error)
        self.assertEqual(getattr(caught.exception, "index", None), field)
        self.assertEqual(frozen(args), held)


class TestBeginning(ReelCase):
    def test_stands_ahead_of_all(self):
        for deeds in ((), [], DEEDS, list(DEEDS)):
            for every in (1, 2, 500):
                held = frozen((A, deeds))
                reel = Reel(A, deeds, every)
                kept = Kept(A)
                self.assertEqual(state_of(reel), (0, frozen(A), kept.shape(), 0, (0,), 0))
                self.assertEqual(frozen((A, deeds)), held)

    def test_bad_deeds(self):
        for thing in strange_things() + [0, "cut", {0: ("cut", 1)}]:
            if not isinstance(thing, (list, tuple)):
                self.check_none(BadDeeds, -1, A, thing, 1)
                self.check_none(BadDeeds, -1, A, thing, 0)
        for thing in strange_things() + [("link", 0, 0), ("cut", 4), ("root", 0), ["cut", 1], ("turn", True)]:
            for every in (1, 0, 501, None):
                self.check_none(BadDeeds, 0, A, (thing,), every)
                self.check_none(BadDeeds, 2, A, DEEDS[:2] + (thing,) + DEEDS[2:], every)
            self.check_none(BadDeeds, 5, A, list(DEEDS) + [thing, thing], 1)
        self.check_none(BadDeeds, 1, A, (("cut", 1), ("cut", 1)), 1)

    def test_no_number(self):
        for thing in no_integers() + [0, -1, 501, 502, 10 ** 19, -500]:
            self.check_none(NoNumber, None, A, DEEDS, thing)
            self.check_none(NoNumber, None, A, [], thing)
        for every in (1, 2, 499, 500):
            self.assertEqual(Reel(A, DEEDS, every).stands(), 0)

    def test_keeps_copies(self):
        deeds = list(DEEDS)
        reel = Reel(A, deeds, 2)
        deeds[1] = ("cut", 3)
        deeds.append(("turn", 0))
        reel.seek(5)
        self.check_no_moment(reel, 6)
        self.assertEqual(frozen(reel.forest_now()), states_of(A, DEEDS)[5][0])

    def test_caught_as_forest_error(self):
        for call in (lambda: Reel(A, 0, 1), lambda: Reel(A, (), 0), lambda: Reel(A, (), 1).seek(1)):
            with self.assertRaises(ForestError):
                call()


class TestSeeking(ReelCase):
    def test_by_hand(self):
        reel, states = Reel(A, DEEDS, 2), states_of(A, DEEDS)
        for at, kept, worked in [(0, (0,), 0), (1, (0,), 1), (3, (0, 2), 2), (3, (0, 2), 0), (2, (0, 2), 0), (1, (0, 2), 1),
                                 (3, (0, 2), 1), (5, (0, 2, 4), 2), (0, (0, 2, 4), 0), (5, (0, 2, 4), 1),
                                 (4, (0, 2, 4), 0), (5, (0, 2, 4), 1), (1, (0, 2, 4), 1), (3, (0, 2, 4), 1)]:
            self.assertIsNone(reel.seek(at))
            self.assertEqual(state_of(reel), (at,) + states[at] + (kept, worked))

    def test_rows_of_deeds(self):
        chance = random.Random(139)
        for many, houses in [(0, 3), (1, 4), (40, 1), (40, 9), (300, 12)]:
            parents = some_parents(chance, houses, 0.4)
            forest = Forest(parents, tuple(chance.randrange(-9, 10) for _ in parents))
            deeds = some_row(chance, forest, many)
            states = states_of(forest, deeds)
            for every in (1, 2, 7, 500):
                reel, own, came = Reel(forest, deeds, every), OwnReel(every), 0
                for _ in range(25):
                    at = chance.choice([chance.randint(0, many), max(own.stands - 1, 0), min(own.stands + 3, many)])
                    reel.seek(at)
                    own.seek(at)
                    self.check(reel, own, states)
                    if at <= came:
                        self.assertLess(reel.worked(), every)
                    came = max(came, at)
                reel.seek(many)
                own.seek(many)
                self.check(reel, own, states)
                self.assertEqual(reel.kept(), tuple(range(0, many + 1, every)))

    def test_no_moments(self):
        for deeds, every in [((), 1), (DEEDS, 2), (DEEDS, 500)]:
            reel = Reel(A, deeds, every)
            reel.seek(len(deeds) // 2)
            for thing in no_integers() + [-1, -2, len(deeds) + 1, 10 ** 19, -10 ** 19]:
                self.check_no_moment(reel, thing)

    def test_copies(self):
        reel, states = Reel(A, DEEDS, 2), states_of(A, DEEDS)
        reel.seek(3)
        copied = reel.copy()
        self.assertIs(type(copied), Reel)
        self.assertEqual(state_of(copied), state_of(reel))
        held = state_of(reel)
        copied.seek(5)
        copied.seek(1)
        self.assertEqual(state_of(copied), (1,) + states[1] + ((0, 2, 4), 1))
        self.assertEqual(state_of(reel), held)
        held = state_of(copied)
        reel.seek(4)
        reel.seek(5)
        reel.seek(2)
        self.assertEqual(state_of(reel), (2,) + states[2] + ((0, 2, 4), 0))
        self.assertEqual(state_of(copied), held)

    def test_kept_ones_stay_as_they_are(self):
        reel, states = Reel(A, DEEDS, 2), states_of(A, DEEDS)
        reel.seek(5)
        for _ in range(3):
            for at in (2, 3, 4, 5, 0, 1):
                reel.seek(at)
                self.assertEqual(state_of(reel)[:4], (at,) + states[at])
        reel.forest_now()
        reel.shape_now()
        self.assertEqual(state_of(reel)[:4], (1,) + states[1])

    def test_kinds(self):
        reel = Reel(A, DEEDS, 2)
        for told, kind in [(reel.stands(), int), (reel.spent_now(), int), (reel.worked(), int), (reel.kept(), tuple),
                           (reel.forest_now(), Forest), (reel.shape_now(), tuple)]:
            self.assertIs(type(told), kind)
        for thing in strange_things():
            self.assertFalse(reel == thing)


if __name__ == "__main__":
    unittest.main()
