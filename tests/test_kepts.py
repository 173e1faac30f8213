"""Kept forests [4.1] [4.2] [4.3], and the general rules [0.2] to [0.4] for them."""

import random
import unittest

from cutlinked.asks import answer, is_ask
from cutlinked.deeds import behind, is_deed, led
from cutlinked.errors import ForestError, NoAsk, NoDeed, NoShape
from cutlinked.forests import Forest
from cutlinked.kepts import Kept, kept_of
from cutlinked.reaching import is_paper
from cutlinked.shapes import is_shape, potential, resting, told_forest
from tests.helper import (
    all_forests, frozen, large_forests, no_houses, some_ask, some_deed, some_parents, strange_things,
)
from tests.keeping import OwnKept
from tests.shaping import LEFT, drawn_shape, own_potential, own_rank, row_shape, some_shapes

A = Forest((None, 0, 1, 1), (5, 7, 2, 9))
TWO = Forest((None, 0, None, 2), (1, 2, 3, 4))
LONE = ((None, None, None, False, 0, 0),)

ALL_ASKS = [
    ("root", 3), ("depth", 3), ("joined", 2, 3), ("joined", 3, 3), ("common", 2, 3), ("common", 3, 3), ("below", 1),
    ("whole", 3), ("way", 2, 3), ("way", 2, 2), ("where", 2, 3, "least"), ("where", 2, 0, "greatest"),
    ("where", 1, 1, "least"), ("at", 2, 0, 1), ("at", 2, 0, 3), ("at", 0, 0, 0), ("reach", 3, 2, 7),
    ("reach", 3, 2, -50), ("reach", 3, 3, 9),
]


def state_of(kept):
    """All that a Kept tells of itself."""
    return (kept.shape(), kept.papers(), kept.links(), kept.spent(), kept.bound(), frozen(kept.forest()))


class KeptCase(unittest.TestCase):
    def do_deed(self, kept, own, deed):
        """Do a deed that can be done, and look at all that is promised of it."""
        due = behind(kept.forest(), deed)
        links = kept.links()
        self.assertIsNone(kept.deed(deed))
        own.deed(deed)
        self.assertEqual(kept.forest(), due)
        self.assertEqual(kept.links(), links + (deed[0] == "link"))
        self.check_like(kept, own)

    def do_ask(self, kept, own, ask):
        """Ask, and look at all that is promised of it."""
        forest, links = kept.forest(), kept.links()
        told = kept.ask(ask)
        self.assertEqual(frozen(told), frozen(answer(forest, ask)))
        self.assertEqual(frozen(own.ask(ask)), frozen(told))
        self.assertEqual((kept.forest(), kept.links()), (forest, links))
        self.check_like(kept, own)

    def check_like(self, kept, own):
        self.assertEqual(frozen(kept.shape()), frozen(own.shape()))
        self.assertEqual(frozen(kept.papers()), frozen(own.papers))
        self.assertTrue(is_shape(kept.shape()))

    def check_sums(self, kept, first):
        rank = own_rank(len(first))
        self.assertEqual(kept.spent(), sum(sum(paper[:3]) for paper in kept.papers()))
        due = (30 * rank + 7) * len(kept.papers()) + 5 * rank * kept.links() + 5 * own_potential(first)
        self.assertEqual(kept.bound(), due)
        self.assertLessEqual(kept.spent(), kept.bound())
        self.assertTrue(all(is_paper(len(first), paper) for paper in kept.papers()))

    def check_row(self, kept, chance, many):
        """Deeds and asks by chance, one behind the other; returns the deeds that were done."""
        first = kept.shape()
        own, done = OwnKept(first), []
        for _ in range(many):
            forest = kept.forest()
            if chance.random() < 0.5:
                self.do_ask(kept, own, some_ask(chance, forest))
                continue
            deed = some_deed(chance, forest)
            if is_deed(forest, deed):
                self.do_deed(kept, own, deed)
                done.append(deed)
            else:
                self.check_refused(kept, deed)
        self.check_sums(kept, first)
        self.assertEqual(led(told_forest(first), done), kept.forest())
        return done

    def check_refused(self, kept, thing, method="deed", error=NoDeed):
        held = state_of(kept), frozen(thing)
        with self.assertRaises(error) as caught:
            getattr(kept, method)(thing)
        self.assertIs(caught.exception.__class__, error)
        self.assertEqual((state_of(kept), frozen(thing)), held)


class TestBeginning(KeptCase):
    def test_resting(self):
        for forest in [A, TWO] + all_forests(3) + large_forests():
            held = frozen(forest)
            kept = Kept(forest)
            self.assertEqual(kept.shape(), resting(forest))
            self.assertEqual(kept.forest(), forest)
            self.assertEqual((kept.papers(), kept.links(), kept.spent()), ([], 0, 0))
            self.assertEqual(kept.bound(), 5 * potential(resting(forest)))
            self.assertEqual(frozen(forest), held)

    def test_of_any_shape(self):
        for shape in some_shapes():
            held = frozen(shape)
            kept = kept_of(shape)
            self.assertIs(type(kept), Kept)
            self.assertEqual(frozen(kept.shape()), held)
            self.assertEqual(kept.forest(), told_forest(shape))
            self.assertEqual((kept.papers(), kept.links(), kept.spent()), ([], 0, 0))
            self.assertEqual(kept.bound(), 5 * own_potential(shape))
            kept.ask(("root", 0))
            self.assertEqual(frozen(shape), held)

    def test_of_no_shape(self):
        shape = resting(A)
        for thing in strange_things() + [0, list(shape), shape[1:], shape + (None,), (list(shape[0]),) + shape[1:]]:
            with self.assertRaises(NoShape) as caught:
                kept_of(thing)
            self.assertIs(caught.exception.__class__, NoShape)

    def test_kinds(self):
        kept = Kept(A)
        kept.deed(("cut", 1))
        for told, kind in [(kept.shape(), tuple), (kept.papers(), list), (kept.links(), int), (kept.spent(), int),
                           (kept.bound(), int), (kept.forest(), Forest), (kept.copy(), Kept)]:
            self.assertIs(type(told), kind)

    def test_equal_to_nothing_else(self):
        kept = Kept(A)
        for thing in strange_things() + [A, resting(A)]:
            self.assertFalse(kept == thing)
        self.assertTrue(kept == kept)


class TestByHand(KeptCase):
    def test_example(self):
        kept = Kept(A)
        self.assertEqual(kept.ask(("depth", 2)), 2)
        self.assertEqual(kept.papers(), [(0, 3, 1, 0)])
        self.assertEqual((kept.spent(), kept.bound()), (4, 82))

    def test_how_many_reachings(self):
        for thing, many in [(("root", 3), 2), (("root", 0), 2), (("depth", 3), 1), (("joined", 1, 3), 4),
                            (("joined", 3, 3), 4), (("common", 1, 3), 6), (("common", 0, 0), 6), (("below", 3), 1),
                            (("whole", 3), 2), (("way", 3, 2), 7), (("way", 2, 2), 7), (("where", 3, 2, "least"), 8),
                            (("where", 3, 3, "greatest"), 8), (("at", 3, 2, 2), 8), (("at", 3, 2, 3), 7),
                            (("reach", 3, 2, 2), 8), (("reach", 3, 2, 1), 7)]:
            kept = Kept(A)
            kept.ask(thing)
            self.assertEqual(len(kept.papers()), many, thing)
        for thing, many in [(("joined", 1, 3), 4), (("common", 1, 3), 4), (("way", 1, 3), 4),
                            (("where", 1, 3, "least"), 4), (("at", 1, 3, 0), 4), (("reach", 1, 3, 99), 4),
                            (("whole", 1), 2)]:
            kept = Kept(TWO)
            kept.ask(thing)
            self.assertEqual(len(kept.papers()), many, thing)
        for thing, many in [(("link", 0, 3), 6), (("cut", 1), 3), (("turn", 3), 1), (("turn", 2), 1),
                            (("put", 1, 1), 1), (("add", 2, 3, 1), 7), (("add", 3, 3, 0), 7)]:
            kept = Kept(TWO)
            kept.deed(thing)
            self.assertEqual(len(kept.papers()), many, thing)

    def test_link(self):
        kept = Kept(Forest((None, None), (1, 2)))
        kept.deed(("link", 1, 0))
        self.assertEqual(kept.shape(), ((None, None, None, False, 0, 1), (0, None, None, False, 0, 2)))
        self.assertEqual(kept.papers(), [(0, 1, 0, 0)] * 6)
        self.assertEqual((kept.links(), kept.spent(), kept.bound()), (1, 6, 6 * 37 + 5))

    def test_cut(self):
        kept = Kept(Forest((None, 0), (1, 2)))
        kept.deed(("cut", 1))
        self.assertEqual(kept.shape(), ((None, None, None, False, 0, 1), (None, None, None, False, 0, 2)))
        # Root 1 is found: 1 is reached through both rows, then 0; then 1 is reached again, 0 its left son.
        self.assertEqual(kept.papers(), [(0, 2, 1, 0), (1, 1, 0, 0), (0, 2, 1, 0)])
        self.assertEqual((kept.links(), kept.bound()), (0, 3 * 37 + 5))

    def test_turn(self):
        kept = Kept(Forest((None, 0), (1, 2)))
        kept.deed(("turn", 1))
        self.assertEqual(kept.shape(), ((1, None, None, False, 0, 1), (None, 0, None, True, 0, 2)))
        self.assertEqual(kept.papers(), [(0, 2, 1, 0)])
        kept.deed(("turn", 0))
        self.assertEqual(kept.shape(), ((None, 1, None, True, 0, 1), (0, None, None, False, 0, 2)))
        self.assertEqual(kept.papers()[1:], [(1, 1, 0, 0)])

    def test_put_and_add(self):
        kept = Kept(Forest((None, 0), (1, 2)))
        kept.deed(("add", 0, 1, 10))
        kept.deed(("put", 0, 4))
        self.assertEqual(kept.forest(), Forest((None, 0), (4, 12)))
        alone = Kept(Forest((None,), (3,)))
        alone.deed(("add", 0, 0, 10))
        # The way is closed by turning: the flag waits, what was added does not.
        self.assertEqual(alone.shape(), ((None, None, None, True, 0, 13),))
        other = kept_of(((None, None, None, False, 5, 3),))
        other.deed(("put", 0, 9))
        self.assertEqual(other.shape(), ((None, None, None, False, 0, 9),))


class TestToTheBit(KeptCase):
    def test_each_ask(self):
        for shape in [resting(A), resting(TWO)] + [shape for shape in some_shapes() if 4 <= len(shape) <= 12]:
            for ask in ALL_ASKS:
                self.do_ask(kept_of(shape), OwnKept(shape), ask)

    def test_each_deed_of_small_forests(self):
        for size in (1, 2, 3):
            houses = range(size)
            deeds = [("link", one, other) for one in houses for other in houses]
            deeds += [("add", one, other, 5) for one in houses for other in houses]
            deeds += [(word, house) for word in ("cut", "turn") for house in houses]
            deeds += [("put", house, -1) for house in houses]
            for forest in all_forests(size):
                for deed in deeds:
                    kept = Kept(forest)
                    if is_deed(forest, deed):
                        self.do_deed(kept, OwnKept(resting(forest)), deed)
                        self.check_sums(kept, resting(forest))
                    else:
                        self.check_refused(kept, deed)

    def test_mixed_rows(self):
        chance = random.Random(53)
        for many in list(range(1, 41, 3)) + [64]:
            parents = some_parents(chance, many, 0.3)
            forest = Forest(parents, tuple(chance.randrange(-9, 10) for _ in parents))
            done = self.check_row(Kept(forest), chance, 60)
            self.assertNotEqual(done, [])

    def test_mixed_rows_from_drawn_shapes(self):
        chance = random.Random(59)
        for many in (1, 2, 3, 4, 5, 9, 24, 64):
            self.check_row(kept_of(drawn_shape(chance, many, 0.1, 0.3)), chance, 60)
        self.check_row(kept_of(row_shape(64, (LEFT,), range(64), range(64))), chance, 40)

    def test_a_long_line(self):
        line = Forest((None,) + tuple(range(63)), tuple(range(64)))
        kept = Kept(line)
        own = OwnKept(resting(line))
        for thing in [("depth", 63), ("root", 63), ("way", 63, 0), ("where", 0, 63, "greatest"), ("common", 31, 63),
                      ("reach", 63, 0, 7), ("below", 32), ("whole", 40)]:
            self.do_ask(kept, own, thing)
        for thing in [("turn", 63), ("cut", 31), ("add", 63, 32, -7), ("link", 31, 63), ("put", 5, 0)]:
            self.do_deed(kept, own, thing)
        self.check_sums(kept, resting(line))

    def test_long_rows_of_one_sort(self):
        chance = random.Random(61)
        forest = Forest((None,) + tuple(range(63)), (0,) * 64)
        for word in ("turn", "add", "root", "way", "depth"):
            kept = Kept(forest)
            for _ in range(40):
                one, other = chance.randrange(64), chance.randrange(64)
                if word == "turn":
                    kept.deed(("turn", one))
                elif word == "add":
                    kept.deed(("add", one, other, 1))
                else:
                    kept.ask(("way", one, other) if word == "way" else (word, one))
            self.check_sums(kept, resting(forest))


class TestRefused(KeptCase):
    def test_deeds(self):
        kept = Kept(TWO)
        kept.deed(("turn", 3))
        for thing in strange_things() + [0, ["cut", 1], ("cut", 0), ("cut", 3), ("link", 2, 0), ("link", 0, 1),
                                         ("add", 0, 2, 1), ("put", 0, True), ("root", 0), ("turn", 4), ("turn", 0, 0)]:
            self.check_refused(kept, thing)
        for thing in no_houses(4):
            for deed in [("link", thing, 0), ("link", 0, thing), ("cut", thing), ("turn", thing), ("put", thing, 0),
                         ("add", thing, 0, 1), ("add", 0, thing, 1)]:
                self.check_refused(kept, deed)
        self.assertEqual(len(kept.papers()), 1)

    def test_asks(self):
        kept = Kept(TWO)
        kept.deed(("turn", 3))
        for thing in strange_things() + [0, ["root", 0], ("root", 4), ("cut", 1), ("at", 0, 1, -1), ("root",),
                                         ("where", 0, 1, "most"), ("reach", 0, 1, None), ("depth", 0, 0)]:
            self.assertFalse(is_ask(4, thing))
            self.check_refused(kept, thing, "ask", NoAsk)
        for thing in no_houses(4):
            for ask in [("root", thing), ("depth", thing), ("below", thing), ("whole", thing), ("way", thing, 0),
                        ("way", 0, thing), ("joined", thing, 0), ("common", 0, thing), ("at", thing, 0, 0),
                        ("where", 0, thing, "least"), ("reach", thing, 0, 0)]:
                self.check_refused(kept, ask, "ask", NoAsk)

    def test_caught_as_forest_error(self):
        for call in (lambda: Kept(A).deed(0), lambda: Kept(A).ask(0), lambda: kept_of(0)):
            with self.assertRaises(ForestError):
                call()


class TestApart(KeptCase):
    def test_copies(self):
        kept = Kept(TWO)
        kept.deed(("link", 0, 3))
        kept.ask(("way", 1, 2))
        copied = kept.copy()
        self.assertEqual(state_of(copied), state_of(kept))
        held = state_of(kept)
        copied.deed(("cut", 0))
        copied.deed(("link", 0, 2))
        copied.ask(("root", 1))
        self.assertEqual(state_of(kept), held)
        self.assertEqual((copied.links(), copied.forest().parents), (2, (2, 0, None, 2)))
        held = state_of(copied)
        kept.deed(("put", 1, 100))
        kept.deed(("add", 0, 3, 100))
        self.assertEqual(state_of(copied), held)

    def test_copies_go_on_alike(self):
        chance = random.Random(67)
        kept = kept_of(drawn_shape(chance, 20, 0.1, 0.3))
        self.check_row(kept, chance, 30)
        copied = kept.copy()
        for _ in range(20):
            ask = some_ask(chance, kept.forest())
            self.assertEqual(kept.ask(ask), copied.ask(ask))
            self.assertEqual(state_of(kept), state_of(copied))

    def test_what_is_told_is_new(self):
        kept = Kept(A)
        kept.ask(("root", 3))
        papers = kept.papers()
        self.assertIsNot(papers, kept.papers())
        papers.append(None)
        papers[0] = None
        self.assertEqual(len(kept.papers()), 2)
        self.assertNotIn(None, kept.papers())
        self.assertEqual(kept.spent(), sum(sum(paper[:3]) for paper in kept.papers()))

    def test_asking_what_stands_changes_nothing(self):
        kept = Kept(TWO)
        kept.ask(("depth", 1))
        held = state_of(kept)
        for _ in range(3):
            self.assertEqual(state_of(kept), held)


if __name__ == "__main__":
    unittest.main()
