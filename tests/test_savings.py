"""Kept forests whose deeds are noted on a disk [6.4], and the general rules [0.2] to [0.4] for them."""

import random
import unittest

from cutlinked.asks import answer, is_ask
from cutlinked.deeds import behind, is_deed, led
from cutlinked.disks import Disk
from cutlinked.errors import ForestError, NoAsk, NoDeed, NoDisk, OtherForest
from cutlinked.forests import Forest
from cutlinked.kepts import Kept, kept_of
from cutlinked.savings import SavedKept
from cutlinked.shapes import resting, told_forest
from tests.helper import (
    all_forests, frozen, large_forests, no_houses, some_ask, some_deed, some_parents, strange_things,
)
from tests.noting import own_parcel, own_row, own_sealed, with_seal
from tests.shaping import some_shapes

A = Forest((None, 0, 1, 1), (5, 7, 2, 9))
TWO = Forest((None, 0, None, 2), (1, 2, 3, 4))


def first_of(forest):
    """The first block over a forest."""
    return own_sealed(("forest", forest.parents, forest.worths))


def state_of(kept):
    """All that a Kept or a SavedKept tells of itself."""
    return (kept.shape(), kept.papers(), kept.links(), kept.spent(), kept.bound(), frozen(kept.forest()))


def disk_of(blocks, synced=0):
    """A Disk with these blocks."""
    disk = Disk()
    for number, row in enumerate(blocks):
        if number == synced:
            disk.sync()
        disk.write(row)
    if synced >= len(blocks):
        disk.sync()
    return disk


def on(disk):
    """All that a Disk tells of itself."""
    return disk.blocks(), disk.synced()


class SavedCase(unittest.TestCase):
    def check(self, saved, disk, kept, blocks, synced):
        """A SavedKept tells what a Kept led alike tells, and the disk holds these blocks."""
        self.assertEqual(frozen(state_of(saved)), frozen(state_of(kept)))
        self.assertEqual(frozen(disk.blocks()), frozen(blocks))
        self.assertEqual(disk.synced(), synced)
        self.assertLessEqual(saved.spent(), saved.bound())

    def check_refused(self, error, saved, disk, method, thing):
        held = state_of(saved), on(disk), frozen(thing)
        with self.assertRaises(error) as caught:
            getattr(saved, method)(thing)
        self.assertIs(caught.exception.__class__, error)
        self.assertEqual((state_of(saved), on(disk), frozen(thing)), held)

    def check_other(self, error, forest, disk):
        held = frozen((forest, disk))
        with self.assertRaises(error) as caught:
            SavedKept(forest, disk)
        self.assertIs(caught.exception.__class__, error)
        self.assertEqual(frozen((forest, disk)), held)

    def begun(self, forest, blocks, synced=0):
        """A SavedKept over a Disk with these blocks, and the disk."""
        disk, held = disk_of(blocks, synced), frozen(forest)
        saved = SavedKept(forest, disk)
        self.assertEqual(frozen(forest), held)
        return saved, disk


class TestBeginning(SavedCase):
    def test_over_an_empty_disk(self):
        for forest in [A, TWO] + all_forests(3) + large_forests():
            saved, disk = self.begun(forest, [])
            self.check(saved, disk, Kept(forest), [first_of(forest)], 1)

    def test_over_its_own_forest(self):
        for synced in (0, 1):
            saved, disk = self.begun(A, [first_of(A)], synced)
            self.check(saved, disk, Kept(A), [first_of(A)], 1)

    def test_goes_on_by_deeds_and_shapes(self):
        deeds = [("cut", 1), ("link", 0, 3), ("put", 2, -50), ("add", 2, 0, 10 ** 19), ("turn", 1)]
        kept = Kept(A)
        blocks = [first_of(A)]
        for deed in deeds:
            kept.deed(deed)
            blocks.append(own_sealed(("deed", deed)))
        for synced in range(len(blocks) + 1):
            saved, disk = self.begun(A, blocks, synced)
            self.check(saved, disk, kept, blocks, len(blocks))
        shape = kept.shape()
        for extra in [[], [("turn", 0)], [("cut", 0), ("link", 1, 0)]]:
            kept, more = kept_of(shape), blocks + [own_sealed(("shape", shape))]
            for deed in extra:
                if is_deed(kept.forest(), deed):
                    kept.deed(deed)
                    more.append(own_sealed(("deed", deed)))
            saved, disk = self.begun(A, more)
            self.check(saved, disk, kept, more, len(more))

    def test_any_shape_that_tells_the_forest(self):
        for shape in some_shapes():
            forest = told_forest(shape)
            blocks = [first_of(forest), own_sealed(("shape", shape)), own_sealed(("shape", resting(forest)))]
            for many, kept in [(2, kept_of(shape)), (3, Kept(forest))]:
                saved, disk = self.begun(forest, blocks[:many])
                self.check(saved, disk, kept, blocks[:many], many)

    def test_other_forests(self):
        behind_it = own_sealed(("deed", ("turn", 0)))
        for first in [
                ("forest", TWO.parents, TWO.worths), ("forest", A.parents, (5, 7, 2, 10)), ("forest", 0, 0),
                ("forest", A.worths, A.parents), ("forest", None, None), ("forest", "forest", "forest"),
                ("forest", (), ()), ("forest", (True,), (False,)), ("forest", ("forest", 0, 0), 1)]:
            for forest in (A, Forest((None,), (0,))):
                for blocks in ([own_sealed(first)], [own_sealed(first), behind_it, (7,)]):
                    for synced in (0, 1, 3):
                        self.check_other(OtherForest, forest, disk_of(blocks, synced))

    def test_a_forest_alike_but_of_another_kind(self):
        line = Forest((None, 0), (0, 1))
        for parcel in [("forest", (None, False), (0, 1)), ("forest", (None, 0), (0, True)), ("forest", (None, 0), (False, 1))]:
            self.check_other(OtherForest, line, disk_of([own_sealed(parcel)]))

    def test_another_first_block(self):
        own = first_of(A)
        deed = own_sealed(("deed", ("cut", 1)))
        for first in [
                (), (0,), own[:-1], own[1:], own + (0,), own[:-1] + (own[-1] ^ 1,), own[:7], own_row(("forest", 1, 2)),
                with_seal((7,)), with_seal(()), own_sealed(None), own_sealed("forest"), own_sealed(("forest",)),
                own_sealed(("forest", 0)), own_sealed(("forest", A.parents, A.worths, 0)), deed, own_sealed(()),
                own_sealed(("Forest", A.parents, A.worths)), own_sealed((("forest",), A.parents, A.worths)),
                own_sealed((A.parents, A.worths, "forest")), own_sealed(("shape", resting(A))), own_sealed((1, 2, 3)),
                own_sealed((None, A.parents, A.worths)), own_sealed(("forests", A.parents, A.worths))]:
            for rest in ([], [deed], [own, deed], [first, (7,)]):
                for synced in (0, 1, 4):
                    saved, disk = self.begun(A, [first] + rest, synced)
                    self.check(saved, disk, Kept(A), [own], 1)

    def test_blocks_that_are_none(self):
        own, good = first_of(A), [own_sealed(("deed", ("cut", 1))), own_sealed(("deed", ("turn", 3)))]
        kept = Kept(A)
        kept.deed(("cut", 1))
        kept.deed(("turn", 3))
        shape = kept.shape()
        flagged = (shape[0][:3] + (0,) + shape[0][4:],) + shape[1:]
        for bad in [
                (), (0,), good[0][:-1], good[0] + (0,), own_row(("deed", ("turn", 0))), with_seal((9,)), own,
                own_sealed(("deed", ("cut", 0))), own_sealed(("deed", ("cut", 3))), own_sealed(("deed", ("link", 3, 2))),
                own_sealed(("deed", ("add", 0, 1, 5))), own_sealed(("deed", ("turn", 4))), own_sealed(("deed", "turn")),
                own_sealed(("deed", ("turn", True))), own_sealed(("deed", ("put", 0, False))), own_sealed(("deed", None)),
                own_sealed(("deed", ("root", 0))), own_sealed(("deed", ("turn", 0), 0)), own_sealed(("deed",)),
                own_sealed(("deeds", ("turn", 0))), own_sealed(("turn", 0)), own_sealed("deed"), own_sealed(()),
                own_sealed((None, ("turn", 0))), own_sealed((("turn", 0), "deed")), own_sealed(None), own_sealed(True),
                own_sealed(("shape", resting(A))), own_sealed(("shape", resting(TWO))), own_sealed(("shape", flagged)),
                own_sealed(("shape", shape[:-1])), own_sealed(("shape", shape, 0)), own_sealed(("shape",)),
                own_sealed(("shape", None)), own_sealed(("deed", shape)), own_sealed(("shapes", shape)), own_sealed(("ask", ("root", 0))),
                own_sealed(("shape", resting(Forest((None,), (0,))))), own_sealed(("shape", ("turn", 0))),
                own_sealed(("forest", kept.forest().parents, kept.forest().worths))]:
            right = [own_sealed(("deed", ("turn", 2))), own_sealed(("shape", shape)), own]
            for rest in ([], right[:1], right, [bad, right[0]]):
                for synced in (0, 2, 3, 9):
                    saved, disk = self.begun(A, [own] + good + [bad] + rest, synced)
                    self.check(saved, disk, kept, [own] + good, 3)

    def test_right_up_to_the_first_that_is_none(self):
        own = first_of(A)
        blocks = [own, own_sealed(("deed", ("cut", 1))), own_sealed(("shape", resting(behind(A, ("cut", 1))))),
                  own_sealed(("deed", ("cut", 2))), own_sealed(("deed", ("cut", 2))), own_sealed(("deed", ("turn", 3)))]
        kept = kept_of(resting(behind(A, ("cut", 1))))
        kept.deed(("cut", 2))
        saved, disk = self.begun(A, blocks)
        self.check(saved, disk, kept, blocks[:4], 4)

    def test_no_disks(self):
        for thing in strange_things() + [0, [], (), [first_of(A)], first_of(A), {}, SavedKept(A, Disk()), Disk]:
            if type(thing) is not Disk:
                self.check_other(NoDisk, A, thing)

    def test_is_made_with_the_disk_itself(self):
        disk = Disk()
        saved = SavedKept(A, disk)
        self.assertIsInstance(saved, Kept)
        saved.deed(("cut", 1))
        self.assertEqual(len(disk.blocks()), 2)


class TestDeedsAndAsks(SavedCase):
    def test_deed_waits(self):
        disk, kept = Disk(), Kept(A)
        saved, blocks = SavedKept(A, disk), [first_of(A)]
        for deed in [("cut", 1), ("link", 0, 3), ("put", 2, -(10 ** 19)), ("add", 2, 0, 5), ("turn", 1), ("turn", 1)]:
            self.assertIsNone(saved.deed(deed))
            kept.deed(deed)
            blocks.append(own_sealed(("deed", deed)))
            self.check(saved, disk, kept, blocks, 1)

    def test_ask_syncs(self):
        disk, kept = Disk(), Kept(A)
        saved, blocks = SavedKept(A, disk), [first_of(A), own_sealed(("deed", ("cut", 1)))]
        saved.deed(("cut", 1))
        kept.deed(("cut", 1))
        for ask in [("root", 3), ("joined", 0, 3), ("way", 2, 3), ("at", 2, 3, 9), ("common", 0, 1)]:
            self.assertEqual(frozen(saved.ask(ask)), frozen(kept.ask(ask)))
            self.check(saved, disk, kept, blocks, len(blocks))
            saved.deed(("put", 0, 4))
            kept.deed(("put", 0, 4))
            blocks.append(own_sealed(("deed", ("put", 0, 4))))
            self.check(saved, disk, kept, blocks, len(blocks) - 1)

    def test_no_deeds(self):
        disk = Disk()
        saved = SavedKept(TWO, disk)
        saved.deed(("turn", 3))
        for thing in strange_things() + [0, ["cut", 1], ("cut", 0), ("cut", 3), ("link", 2, 0), ("link", 0, 1),
                                         ("add", 0, 2, 1), ("put", 0, True), ("root", 0), ("turn", 4), ("turn", 0, 0)]:
            self.check_refused(NoDeed, saved, disk, "deed", thing)
        for thing in no_houses(4):
            for deed in [("link", thing, 0), ("cut", thing), ("turn", thing), ("put", thing, 0), ("add", 0, thing, 1)]:
                self.check_refused(NoDeed, saved, disk, "deed", deed)
        self.assertEqual((len(disk.blocks()), disk.synced()), (2, 1))

    def test_no_asks(self):
        disk = Disk()
        saved = SavedKept(TWO, disk)
        saved.deed(("turn", 3))
        for thing in strange_things() + [0, ["root", 0], ("root", 4), ("cut", 1), ("at", 0, 1, -1), ("root",),
                                         ("where", 0, 1, "most"), ("reach", 0, 1, None), ("depth", 0, 0)]:
            self.assertFalse(is_ask(4, thing))
            self.check_refused(NoAsk, saved, disk, "ask", thing)
        for thing in no_houses(4):
            for ask in [("root", thing), ("way", thing, 0), ("joined", 0, thing), ("at", thing, 0, 0)]:
                self.check_refused(NoAsk, saved, disk, "ask", ask)
        self.assertEqual(disk.synced(), 1)

    def test_caught_as_forest_error(self):
        for call in (lambda: SavedKept(A, 0), lambda: SavedKept(TWO, disk_of([first_of(A)])),
                     lambda: SavedKept(A, Disk()).moved(0)):
            with self.assertRaises(ForestError):
                call()


class TestKeeping(SavedCase):
    def test_keep(self):
        disk, kept = Disk(), Kept(A)
        saved = SavedKept(A, disk)
        for thing in (saved, kept):
            thing.deed(("cut", 2))
            thing.ask(("way", 0, 3))
            thing.deed(("turn", 3))
        blocks = disk.blocks() + [own_sealed(("shape", kept.shape()))]
        self.assertEqual(frozen(saved.keep()), frozen(4))
        self.check(saved, disk, kept_of(kept.shape()), blocks, 4)
        self.assertEqual((saved.papers(), saved.links(), saved.spent()), ([], 0, 0))
        self.assertEqual(saved.keep(), 5)
        self.check(saved, disk, kept_of(kept.shape()), blocks + blocks[-1:], 5)
        kept = kept_of(kept.shape())
        self.assertEqual(saved.ask(("depth", 0)), kept.ask(("depth", 0)))
        self.check(saved, disk, kept, blocks + blocks[-1:], 5)

    def test_moved(self):
        disk, other = Disk(), Disk()
        saved = SavedKept(A, disk)
        saved.deed(("cut", 1))
        saved.deed(("link", 0, 3))
        saved.ask(("way", 0, 2))
        saved.deed(("put", 0, 1))
        held = state_of(saved), on(disk)
        shape, forest = saved.shape(), saved.forest()
        moved = saved.moved(other)
        self.assertIs(type(moved), SavedKept)
        self.assertEqual((state_of(saved), on(disk)), held)
        blocks = [first_of(forest), own_sealed(("shape", shape))]
        self.check(moved, other, kept_of(shape), blocks, 2)
        moved.deed(("cut", 0))
        self.assertEqual((state_of(saved), on(disk)), held)
        self.assertEqual(on(other), (blocks + [own_sealed(("deed", ("cut", 0)))], 2))
        held = state_of(moved), on(other)
        saved.deed(("turn", 2))
        saved.keep()
        self.assertEqual((state_of(moved), on(other)), held)
        self.assertEqual(state_of(SavedKept(forest, other.copy())), state_of(moved))

    def test_moved_over_no_disk(self):
        disk = Disk()
        saved = SavedKept(TWO, disk)
        saved.deed(("cut", 1))
        for thing in strange_things() + [0, [], disk, disk.copy(), disk_of([()]), disk_of([(1,)], 1),
                                         disk_of([first_of(saved.forest())]), saved, Disk]:
            if type(thing) is not Disk or thing.blocks():
                self.check_refused(NoDisk, saved, disk, "moved", thing)

    def test_never_moved_over_its_own_disk(self):
        disk = Disk()
        saved = SavedKept(TWO, disk)
        disk.drop(0)
        self.check_refused(NoDisk, saved, disk, "moved", disk)

    def test_copy_is_a_kept_that_goes_on_apart(self):
        disk = Disk()
        saved = SavedKept(TWO, disk)
        saved.deed(("link", 0, 3))
        saved.ask(("way", 1, 2))
        saved.deed(("turn", 1))
        copied = saved.copy()
        self.assertIs(type(copied), Kept)
        self.assertEqual(state_of(copied), state_of(saved))
        held = state_of(saved), on(disk)
        copied.deed(("cut", 0))
        copied.ask(("root", 0))
        self.assertEqual((state_of(saved), on(disk)), held)
        held = state_of(copied)
        saved.deed(("put", 1, 100))
        saved.keep()
        self.assertEqual(state_of(copied), held)

    def test_what_is_told_is_new(self):
        saved = SavedKept(A, Disk())
        saved.ask(("root", 3))
        papers = saved.papers()
        papers.append(None)
        self.assertEqual(len(saved.papers()), 2)
        for told, kind in [(saved.shape(), tuple), (papers, list), (saved.links(), int), (saved.spent(), int),
                           (saved.bound(), int), (saved.forest(), Forest), (saved.keep(), int)]:
            self.assertIs(type(told), kind)

    def test_equal_to_nothing_else(self):
        saved = SavedKept(A, Disk())
        for thing in strange_things() + [A, resting(A), Kept(A), saved.copy()]:
            self.assertFalse(saved == thing)
        self.assertTrue(saved == saved)


class TestLasting(SavedCase):
    """Long rows of deeds, asks and keeps; the disk is cut anywhere between."""

    def follow(self, chance, forest, many):
        disk = Disk()
        saved, kept, standing = SavedKept(forest, disk), Kept(forest), forest
        blocks, synced, done, sure = [first_of(forest)], 1, [], 0
        for _ in range(many):
            word = chance.choice(["deed"] * 9 + ["ask"] * 4 + ["keep", "again", "cut", "cut"])
            deed = some_deed(chance, standing)
            if word == "deed" and is_deed(standing, deed):
                saved.deed(deed)
                kept.deed(deed)
                standing = behind(standing, deed)
                done.append(deed)
                blocks.append(own_sealed(("deed", deed)))
            elif word == "ask":
                ask = some_ask(chance, standing)
                self.assertEqual(frozen(saved.ask(ask)), frozen(answer(standing, ask)))
                kept.ask(ask)
                # What is asked is not noted: an ask turns the shape, but not what goes on by the disk.
                synced, sure = len(blocks), len(done)
            elif word == "keep":
                blocks.append(own_sealed(("shape", kept.shape())))
                self.assertEqual(saved.keep(), len(blocks))
                kept = kept_of(kept.shape())
                synced, sure = len(blocks), len(done)
            elif word == "cut":
                many_bytes = tuple(chance.choice([0, len(row), len(row), chance.randint(0, len(row))])
                                   for row in disk.blocks()[disk.synced():])
                disk.cut(many_bytes)
                whole = synced
                while whole < len(blocks) and many_bytes[whole - synced] == len(blocks[whole]):
                    whole += 1
                lost = len(blocks) - whole
                done = done[:len(done) - lost]
                blocks, standing = blocks[:whole], led(forest, done)
                saved, kept, synced = self.again(forest, disk, standing, blocks)
                self.assertGreaterEqual(len(done), sure)
                self.assertEqual(saved.forest(), standing)
            else:
                saved, kept, synced = self.again(forest, disk, standing, blocks)
            self.check(saved, disk, kept, blocks, synced)
            self.assertEqual(saved.forest(), led(forest, done))
        return len(done)

    def again(self, forest, disk, standing, blocks):
        """A SavedKept made anew of the disk, a Kept led alike, and how many blocks are synced."""
        saved, kept = SavedKept(forest, disk), Kept(forest)
        for row in blocks[1:]:
            _, (word, thing) = own_parcel(row[:-4])
            if word == "deed":
                kept.deed(thing)
            else:
                kept = kept_of(thing)
        self.assertEqual(saved.forest(), standing)
        return saved, kept, len(blocks)

    def test_small_forests(self):
        chance = random.Random(103)
        for forest in [A, TWO, Forest((None,), (0,))] + all_forests(2) + all_forests(3)[::3]:
            for _ in range(3):
                self.follow(chance, forest, 60)

    def test_larger_forests(self):
        chance = random.Random(107)
        most = 0
        for many in (5, 9, 17, 33, 64):
            parents = some_parents(chance, many, 0.3)
            forest = Forest(parents, tuple(chance.randrange(-9, 10) for _ in parents))
            most = max(most, self.follow(chance, forest, 50))
        self.assertGreater(most, 10)

    def test_cut_at_each_place(self):
        disk = Disk()
        saved = SavedKept(A, disk)
        deeds = [("cut", 1), ("link", 0, 3), ("put", 2, 300)]
        saved.deed(deeds[0])
        saved.ask(("root", 0))
        saved.deed(deeds[1])
        saved.deed(deeds[2])
        rows = disk.blocks()[2:]
        for first in range(len(rows[0]) + 1):
            for other in range(len(rows[1]) + 1):
                copied = disk.copy()
                copied.cut((first, other))
                new = SavedKept(A, copied)
                many = 1 + (first == len(rows[0])) + (first == len(rows[0]) and other == len(rows[1]))
                self.assertEqual(new.forest(), led(A, deeds[:many]))
                self.assertEqual(on(copied), (disk.blocks()[:1 + many], 1 + many))
                self.assertLessEqual(new.spent(), new.bound())

    def test_first_block_cut(self):
        # A first block that waits, and of which a cut leaves a part only, is written anew.
        for many in range(len(first_of(A)) + 1):
            disk = disk_of([first_of(A), own_sealed(("deed", ("cut", 1)))])
            disk.cut((many, len(disk.blocks()[1])))
            saved = SavedKept(A, disk)
            whole = many == len(first_of(A))
            self.assertEqual(saved.forest(), behind(A, ("cut", 1)) if whole else A)
            self.assertEqual(on(disk)[1], 2 if whole else 1)


if __name__ == "__main__":
    unittest.main()
