"""Disks and what is kept on them [6.3], and the general rules [0.2] to [0.4] for them."""

import random
import unittest

from cutlinked.disks import Disk, kept_parcels
from cutlinked.errors import ForestError, NoBlocks, NoCut, NoNumber, NoRow
from cutlinked.parcels import row_of, sealed
from tests.helper import frozen, no_integers, strange_things
from tests.noting import own_sealed, with_seal


def state_of(disk):
    """All that a Disk tells of itself."""
    return disk.blocks(), disk.synced()


def filled(synced, waiting):
    """A Disk with these blocks: some synced, some that wait."""
    disk = Disk()
    for row in synced:
        disk.write(row)
    disk.sync()
    for row in waiting:
        disk.write(row)
    return disk


class DiskCase(unittest.TestCase):
    def check_refused(self, error, disk, method, *args):
        held = state_of(disk), frozen(args)
        with self.assertRaises(error) as caught:
            getattr(disk, method)(*args)
        self.assertIs(caught.exception.__class__, error)
        self.assertEqual((state_of(disk), frozen(args)), held)


class TestWriting(DiskCase):
    def test_empty(self):
        disk = Disk()
        self.assertEqual(state_of(disk), ([], 0))
        self.assertEqual((disk.sync(), disk.cut(()), disk.drop(0)), (0, None, None))
        self.assertEqual(state_of(disk), ([], 0))

    def test_write_and_sync(self):
        disk = Disk()
        rows = [(), (0,), (255, 0, 7), (0,), tuple(range(256)), (5,) * 20000]
        for number, row in enumerate(rows[:4]):
            self.assertEqual(frozen(disk.write(row)), frozen(number))
            self.assertEqual(state_of(disk), (rows[:number + 1], 0))
        self.assertEqual(frozen(disk.sync()), frozen(4))
        self.assertEqual(state_of(disk), (rows[:4], 4))
        self.assertEqual((disk.sync(), disk.sync()), (0, 0))
        self.assertEqual((disk.write(rows[4]), disk.synced(), disk.write(rows[5]), disk.synced()), (4, 4, 5, 4))
        self.assertEqual((disk.sync(), disk.synced(), disk.blocks()), (2, 6, rows))

    def test_no_rows(self):
        disk = filled([(1,)], [(2, 3)])
        for thing in strange_things() + [0, [0], [], "ab", b"ab", (256,), (-1,), (True,), (0, None), ((0,),), {0: 0}]:
            if thing not in ((), (0,)):
                self.check_refused(NoRow, disk, "write", thing)
        for thing in strange_things():
            self.check_refused(NoRow, disk, "write", (0, thing))

    def test_blocks_are_a_new_list(self):
        disk = filled([(1,)], [(2,)])
        told = disk.blocks()
        self.assertIsNot(told, disk.blocks())
        told.append((3,))
        told[0] = (9,)
        self.assertEqual(disk.blocks(), [(1,), (2,)])
        copied = disk.copy().blocks()
        copied.clear()
        self.assertEqual(state_of(disk), ([(1,), (2,)], 1))


class TestCut(DiskCase):
    def test_cut(self):
        for kept, left in [((0, 0), [(), ()]), ((3, 2), [(4, 5, 6), (7, 8)]), ((1, 2), [(4,), (7, 8)]),
                           ((3, 0), [(4, 5, 6), ()]), ((2, 1), [(4, 5), (7,)])]:
            disk = filled([(1, 2), (3,)], [(4, 5, 6), (7, 8)])
            self.assertIsNone(disk.cut(kept))
            self.assertEqual(state_of(disk), ([(1, 2), (3,)] + left, 4))
            self.assertIsNone(disk.cut(()))
            self.assertEqual((disk.sync(), disk.write((9,)), disk.synced()), (0, 4, 4))
            self.check_refused(NoCut, disk, "cut", ())
            disk.cut((1,))
            self.assertEqual(state_of(disk), ([(1, 2), (3,)] + left + [(9,)], 5))

    def test_empty_blocks(self):
        disk = filled([], [(), (1,), ()])
        self.check_refused(NoCut, disk, "cut", (0, 1, 1))
        disk.cut((0, 0, 0))
        self.assertEqual(state_of(disk), ([(), (), ()], 3))

    def test_no_cut(self):
        disk = filled([(1, 2), (3,)], [(4, 5, 6), (7, 8)])
        for thing in strange_things() + [0, 1, [0, 0], [3, 2], (0,), (), (0, 0, 0), (4, 2), (3, 3), (-1, 0), (0, -1),
                                         (True, 0), (0, False), (0, None), ("0", 0), (0, "0"), (10 ** 19, 0), (0, 0, 3, 2),
                                         {0: 0, 1: 1}, "00", b"\x00\x00", ((0, 0),), ((0,), (0,)), range(2)]:
            self.check_refused(NoCut, disk, "cut", thing)
        for thing in no_integers():
            self.check_refused(NoCut, disk, "cut", (thing, 0))
            self.check_refused(NoCut, disk, "cut", (0, thing))

    def test_when_none_waits(self):
        for disk in (Disk(), filled([(1, 2)], [])):
            for thing in strange_things() + [0, (0,), (1,), [0]]:
                if thing != ():
                    self.check_refused(NoCut, disk, "cut", thing)
            held = state_of(disk)
            self.assertIsNone(disk.cut(()))
            self.assertEqual(state_of(disk), held)


class TestDrop(DiskCase):
    def test_drop(self):
        synced, waiting = [(1,), (2,), (3,)], [(4,), (5,)]
        for number in range(6):
            disk = filled(synced, waiting)
            self.assertIsNone(disk.drop(number))
            self.assertEqual(state_of(disk), ((synced + waiting)[:number], min(3, number)))
            self.assertEqual(disk.write((6,)), number)
            self.assertEqual(disk.sync(), max(number - 3, 0) + 1)

    def test_no_numbers(self):
        disk = filled([(1,), (2,), (3,)], [(4,), (5,)])
        for thing in no_integers() + [-1, -5, 6, 7, 10 ** 19, -10 ** 19]:
            self.check_refused(NoNumber, disk, "drop", thing)
        for thing in no_integers() + [1, -1]:
            self.check_refused(NoNumber, Disk(), "drop", thing)

    def test_caught_as_forest_error(self):
        for call in (lambda: Disk().write(0), lambda: Disk().cut(0), lambda: Disk().drop(1), lambda: kept_parcels(0)):
            with self.assertRaises(ForestError):
                call()


class TestApart(DiskCase):
    def test_copies(self):
        disk = filled([(1,), (2,)], [(3, 3)])
        copied = disk.copy()
        self.assertIs(type(copied), Disk)
        self.assertEqual(state_of(copied), state_of(disk))
        held = state_of(disk)
        copied.write((4,))
        copied.cut((1, 0))
        copied.drop(1)
        self.assertEqual(state_of(disk), held)
        held = state_of(copied)
        disk.write((5,))
        disk.sync()
        disk.drop(0)
        self.assertEqual(state_of(copied), held)
        self.assertEqual(held, ([(1,)], 1))

    def test_equal_to_nothing_else(self):
        disk = filled([(1,)], [])
        for thing in strange_things() + [[(1,)]]:
            self.assertFalse(disk == thing)
        self.assertTrue(disk == disk)

    def test_long_rows_of_deeds(self):
        chance = random.Random(101)
        for _ in range(30):
            disk, own, synced = Disk(), [], 0
            for _ in range(40):
                word = chance.choice(["write"] * 4 + ["sync", "cut", "drop", "copy"])
                if word == "write":
                    row = tuple(chance.randrange(256) for _ in range(chance.randrange(4)))
                    self.assertEqual(disk.write(row), len(own))
                    own.append(row)
                elif word == "sync":
                    self.assertEqual(disk.sync(), len(own) - synced)
                    synced = len(own)
                elif word == "cut":
                    many = [chance.randint(0, len(row)) for row in own[synced:]]
                    disk.cut(tuple(many))
                    own = own[:synced] + [row[:k] for row, k in zip(own[synced:], many)]
                    synced = len(own)
                elif word == "drop":
                    number = chance.randint(0, len(own))
                    disk.drop(number)
                    own, synced = own[:number], min(synced, number)
                else:
                    disk = disk.copy()
                self.assertEqual(state_of(disk), (own, synced))


class TestKeptParcels(DiskCase):
    def assert_kept(self, due, blocks):
        held = frozen(blocks)
        self.assertEqual(frozen(kept_parcels(blocks)), frozen(due))
        self.assertIsNot(kept_parcels(blocks), kept_parcels(blocks))
        self.assertEqual(frozen(blocks), held)

    def test_all(self):
        parcels = [None, True, 0, -300, "link", (), ("forest", (None,), (0,)), ((1, 2), "x")]
        rows = [own_sealed(parcel) for parcel in parcels]
        for many in range(len(rows) + 1):
            self.assert_kept(parcels[:many], rows[:many])
            self.assert_kept(parcels[:many], tuple(rows[:many]))

    def test_up_to_the_first_that_is_none(self):
        rows = [sealed(parcel) for parcel in (1, (2, 3), "x")]
        for bad in [(), (0,), row_of(1), rows[0][:-1], rows[0] + (0,), with_seal((7,)), with_seal(()), rows[1][1:]]:
            for at in range(4):
                self.assert_kept([1, (2, 3), "x"][:at], rows[:at] + [bad] + rows[at:])
                self.assert_kept([1, (2, 3), "x"][:at], tuple(rows[:at] + [bad] + rows[at:] + [bad]))

    def test_no_blocks(self):
        good = sealed(1)
        for thing in strange_things() + [0, good, list(good), "ab", {good: good}, {0: good}, (good, list(good)), [[0]]]:
            if thing not in ((), [], ((),), ((0, 0),) * 6000):
                self.check_no_blocks(thing)
        for thing in strange_things() + [[], 0, (256,), (-1,), (True,)]:
            if thing not in ((), (0,)):
                # Also where it stands behind a block that is sealed of none.
                self.check_no_blocks([good, (), thing])
                self.check_no_blocks((thing, good))

    def check_no_blocks(self, thing):
        held = frozen(thing)
        with self.assertRaises(NoBlocks) as caught:
            kept_parcels(thing)
        self.assertIs(caught.exception.__class__, NoBlocks)
        self.assertEqual(frozen(thing), held)


if __name__ == "__main__":
    unittest.main()
