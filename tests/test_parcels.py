"""Byte rows of parcels, marks and seals [6.1] [6.2], and the general rules [0.2] to [0.4] for them."""

import random
import unittest

from cutlinked.errors import BadRow, ForestError, NoParcel, NoRow
from cutlinked.forests import Forest
from cutlinked.parcels import is_parcel, mark, parcel_of, row_of, sealed, unsealed
from tests.helper import frozen, nested, package_errors, strange_things
from tests.noting import SIGNS, own_mark, own_parcel, own_row, own_sealed, with_seal

INTEGERS = [0, 1, 2, 3, 5, 6, 36, 37, 38, 127, 128, 129, 255, 256, 300, 16383, 16384, 16385, 2 ** 21 - 1, 2 ** 21,
            10 ** 20 - 1, 10 ** 19, 2 ** 64, 2 ** 63, -1, -2, -127, -128, -129, -130, -16384, -16385, -16386,
            -10 ** 20 + 1, -2 ** 64, -2 ** 64 - 1]

STRINGS = SIGNS + ["link", "x" * 20, " " * 20, "".join(SIGNS[:20]), "a b", "~ ~", "yes", "no", "None", "0", "\\", "\"'"]

NO_STRINGS = ["", "x" * 21, "x" * 20000, "%", "a%", "%%", "a" * 19 + "%", "\n", "a\n", "\na", "\t", "\x7f", "\x1f",
              "\xe9", "\u0100", "\0", "\x80", "\ud800"]


def some_parcels():
    """Parcels of each sort, nested in each way."""
    chance = random.Random(83)
    flat = [None, False, True] + INTEGERS + STRINGS
    rows = [(), ((),), ((), ()), (None,), (True, 1, False, 0), (None, "None", 0, ()), tuple(flat), tuple(INTEGERS),
            ("link", 0, 1), ("deed", ("put", 3, -7)), (None,) * 127, (None,) * 128, (1,) * 300, ((2,) * 130,) * 3,
            nested(lambda inner: (inner,), 20), nested(lambda inner: (1, inner, "a"), 20), nest((), 19), nest(None, 20),
            (nest((), 18), nest("x", 19), 5), ("forest", (None, 0, 1, 1), (5, 7, 2, 9)),
            10 ** 40, -10 ** 40, 10 ** 1000, (10 ** 60, -10 ** 60)]
    for _ in range(60):
        rows.append(drawn(chance, 4))
    return flat + rows


def nest(thing, deep):
    """The thing within so many tuples."""
    for _ in range(deep):
        thing = (thing,)
    return thing


def drawn(chance, deep):
    """A parcel by chance."""
    if deep and chance.random() < 0.6:
        return tuple(drawn(chance, deep - 1) for _ in range(chance.randrange(5)))
    return chance.choice([None, True, False, chance.choice(INTEGERS), chance.choice(STRINGS),
                          chance.randrange(-300, 300), "".join(chance.choices(SIGNS, k=chance.randint(1, 20)))])


def no_parcels():
    """What is no parcel."""
    found = [thing for thing in strange_things() if own_is_none(thing)]
    found += NO_STRINGS + [[], [1], {}, b"a", b"", nest((), 20), nest(None, 21), nest(1, 40), nest((), 39),
                           [None], {"a": 1}, Forest((None,), (0,)), range(2)]
    return found


def own_is_none(thing):
    """Whether a strange thing is no parcel."""
    if thing is None or thing is True or thing is False:
        return False
    if type(thing) is str:
        return not 1 <= len(thing) <= 20 or not all(sign in SIGNS for sign in thing)
    if type(thing) is tuple:
        return deep_of(thing) > 20 or any(own_is_none(part) for part in thing)
    return type(thing) is not int


def deep_of(thing):
    """How deep a thing of tuples is nested."""
    return 1 + max([0] + [deep_of(part) for part in thing]) if type(thing) is tuple else 0


class RowCase(unittest.TestCase):
    def assert_raises(self, error, call, *args):
        held = frozen(args)
        with self.assertRaises(error) as caught:
            call(*args)
        self.assertIs(caught.exception.__class__, error)
        self.assertEqual(frozen(args), held)
        return caught.exception

    def check_read(self, row):
        """Compare what is read with the own reading; returns whether it is a parcel's row."""
        place, parcel = own_parcel(row)
        if place is None:
            self.assertEqual(frozen(parcel_of(row)), frozen(parcel))
            return True
        self.assertEqual(self.assert_raises(BadRow, parcel_of, row).place, place, row)
        return False

    def assert_bad_row(self, place, row):
        self.assertEqual(self.assert_raises(BadRow, parcel_of, row).place, place)
        self.assertEqual(own_parcel(row), (place, None))


class TestRowOf(RowCase):
    def test_by_hand(self):
        for parcel, row in [
                (None, (0,)), (False, (1,)), (True, (2,)), (0, (3, 0)), (1, (3, 1)), (127, (3, 127)),
                (128, (3, 128, 1)), (300, (3, 172, 2)), (16383, (3, 255, 127)), (16384, (3, 128, 128, 1)),
                (-1, (4, 0)), (-2, (4, 1)), (-128, (4, 127)), (-129, (4, 128, 1)), ("a", (5, 1, 97)),
                (" ~", (5, 2, 32, 126)), ("x" * 20, (5, 20) + (120,) * 20), ((), (6, 0)), (((),), (6, 1, 6, 0)),
                ((1, None), (6, 2, 3, 1, 0)), ((None,) * 128, (6, 128, 1) + (0,) * 128)]:
            self.assertEqual(frozen(row_of(parcel)), frozen(row))
            self.assertEqual(frozen(parcel_of(row)), frozen(parcel))
            self.assertEqual(own_row(parcel), row)

    def test_there_and_back(self):
        for parcel in some_parcels():
            held = frozen(parcel)
            self.assertIs(is_parcel(parcel), True)
            row = row_of(parcel)
            self.assertEqual(frozen(row), frozen(own_row(parcel)))
            self.assertEqual(row_of(parcel), row)
            self.assertEqual(frozen(parcel_of(row)), held)
            self.assertEqual(frozen(parcel), held)

    def test_none(self):
        for thing in no_parcels():
            self.assertIs(is_parcel(thing), False, thing)
            self.assert_raises(NoParcel, row_of, thing)
            self.assert_raises(NoParcel, sealed, thing)
            self.assertIs(is_parcel((1, thing)), False)
            self.assert_raises(NoParcel, row_of, (thing, None))

    def test_what_is_judged(self):
        for thing in strange_things():
            held = frozen(thing)
            self.assertIs(is_parcel(thing), not own_is_none(thing))
            self.assertEqual(frozen(thing), held)

    def test_deep_and_wide(self):
        self.assertTrue(is_parcel(nest((), 19)))
        self.assertFalse(is_parcel(nest((), 20)))
        self.assertTrue(is_parcel(nest(0, 20)))
        self.assertFalse(is_parcel(nest(0, 21)))
        self.assertFalse(is_parcel((0, (nest((), 19),))))
        wide = ("a",) * 20000
        self.assertEqual(row_of(wide), (6, 160, 156, 1) + (5, 1, 97) * 20000)
        self.assertEqual(parcel_of(row_of(wide)), wide)


class TestParcelOf(RowCase):
    def test_no_rows(self):
        for thing in strange_things() + [0, [0], [3, 1], (0, None), (True,), (False,), (3, True), (256,), (-1,), (0, 256),
                                         (3, -1), "0", b"\x00", (b"\x00",), ("0",), ((0,),), {0: 0}, (2 ** 64,), ([0],)]:
            if thing not in ((), (0,)):
                self.assert_raises(NoRow, parcel_of, thing)
                self.assert_raises(NoRow, mark, thing)
        for thing in strange_things():
            self.assert_raises(NoRow, parcel_of, (3, thing))
            self.assert_raises(NoRow, parcel_of, (99, 99, thing))

    def test_places(self):
        for place, row in [
                (0, ()), (0, (7,)), (0, (255, 0)), (0, (128,)), (1, (3,)), (1, (4,)), (1, (5,)), (1, (6,)),
                (1, (3, 128)), (1, (3, 255, 255)), (1, (3, 128, 0)), (1, (4, 128, 128, 0)), (1, (6, 128, 0)),
                (1, (5, 129, 0, 97)), (1, (5, 0)), (1, (5, 21)), (1, (5, 21) + (97,) * 21), (1, (5, 128)),
                (1, (5, 148, 1)), (1, (5,) + (255,) * 300 + (1,)), (1, (5,) + (255,) * 300), (1, (5, 148, 0)),
                (2, (5, 1)), (2, (5, 1, 37)), (2, (5, 1, 10)), (2, (5, 1, 127)), (2, (5, 1, 31)), (2, (5, 2, 200, 97)),
                (3, (5, 2, 97)), (3, (5, 2, 97, 37)), (2, (5, 2, 37)), (3, (5, 1, 97, 0)), (1, (0, 0)), (1, (2, 7)),
                (2, (3, 0, 0)), (3, (3, 128, 1, 1)), (2, (6, 1)), (2, (6, 0, 0)), (3, (6, 2, 0)), (2, (6, 1, 7)),
                (3, (6, 1, 3, 128)), (3, (6, 1, 5, 0)), (4, (6, 1, 3, 1, 0)), (3, (6,) + (255, 1)),
                (302, (6,) + (255,) * 300 + (1,)), (4, (6, 2, 3, 0)), (3, (6, 2, 0, 9))]:
            self.assert_bad_row(place, row)

    def test_nested_too_deep(self):
        self.assertEqual(parcel_of((6, 1) * 19 + (6, 0)), nest((), 19))
        self.assertEqual(parcel_of((6, 1) * 20 + (0,)), nest(None, 20))
        self.assert_bad_row(40, (6, 1) * 20 + (6, 0))
        self.assert_bad_row(40, (6, 1) * 20 + (6,))
        self.assert_bad_row(40, (6, 1) * 3000)
        self.assert_bad_row(40, (6, 1) * 20)
        self.assert_bad_row(41, (6, 1) * 20 + (0, 6))
        self.assert_bad_row(42, (6, 2) + (6, 1) * 19 + (0, 6))
        self.assert_bad_row(41, (6, 1) * 19 + (6, 2, 0, 6, 0))

    def test_rows_with_a_byte_changed(self):
        good = 0
        for parcel in [None, 5, -5, 300, -300, 16384, "abc", (), (1, "a", (None, True)), ("put", 1, 200), ((), ((),))]:
            row = row_of(parcel)
            for place in range(len(row) + 1):
                for byte in range(256):
                    good += self.check_read(row[:place] + (byte,) + row[place + 1:])
                    good += self.check_read(row[:place] + (byte,) + row[place:])
                good += self.check_read(row[:place] + row[place + 1:])
        self.assertGreater(good, 1000)

    def test_rows_with_bytes_changed_by_chance(self):
        chance = random.Random(89)
        rows = [row_of(parcel) for parcel in some_parcels()]
        for _ in range(6000):
            row = list(chance.choice(rows)[:400])
            for _ in range(chance.randint(1, 3)):
                place = chance.randrange(len(row) + 1)
                row[place:place + chance.randrange(2)] = chance.choice(
                    [[], [chance.choice([0, 1, 3, 5, 6, 37, 97, 128, 255])], [chance.randrange(256)]])
            self.check_read(tuple(row))

    def test_small_rows(self):
        bytes_tried = (0, 1, 2, 3, 4, 5, 6, 7, 32, 37, 126, 127, 128, 129, 255)
        rows = [()]
        for _ in range(4):
            rows = [row + (byte,) for row in rows for byte in bytes_tried]
            found = {}
            for row in rows[::1 if len(rows) < 4000 else 5]:
                if self.check_read(row):
                    self.assertEqual(row_of(parcel_of(row)), row)
                    found[row] = True
            self.assertTrue(found)

    def test_no_true_beginning_is_a_row(self):
        for parcel in some_parcels():
            row = row_of(parcel)
            for end in range(len(row)) if len(row) < 300 else range(0, len(row), 37):
                self.assertFalse(self.check_read(row[:end]))
            self.assertEqual(self.assert_raises(BadRow, parcel_of, row + (0,)).place, len(row))

    def test_caught_as_forest_error(self):
        for call in (lambda: row_of([]), lambda: parcel_of(0), lambda: parcel_of(()), lambda: mark(0)):
            with self.assertRaises(ForestError):
                call()


class TestMark(RowCase):
    def test_by_hand(self):
        self.assertEqual(mark(()), 1)
        self.assertEqual(mark((0,)), 1000004)
        self.assertEqual(mark((255,)), 1000003 + 256)
        self.assertEqual(mark((0, 0)), 1000003 * 1000004 + 1)
        self.assertEqual(mark((1, 2)), (1000003 + 2) * 1000003 + 3)

    def test_rows(self):
        chance = random.Random(97)
        for length in list(range(40)) + [200, 1000]:
            row = tuple(chance.randrange(256) for _ in range(length))
            self.assertEqual(frozen(mark(row)), frozen(own_mark(row)))
            self.assertLess(mark(row), 2 ** 61 - 1)
        for length in (20000, 19999):
            found = 1
            for _ in range(length):
                found = (found * 1000003 + 256) % (2 ** 61 - 1)
            self.assertEqual(mark((255,) * length), found)

    def test_no_rows(self):
        for thing in [[], [0], (256,), (-1,), (True,), (0, None), "", b"", None, 0, ((),)]:
            self.assert_raises(NoRow, mark, thing)
        for thing in strange_things():
            self.assert_raises(NoRow, mark, (0, thing))


class TestSeals(RowCase):
    def assert_none(self, row):
        held = frozen(row)
        self.assertEqual(frozen(unsealed(row)), ("tuple", []))
        self.assertEqual(frozen(row), held)

    def test_there_and_back(self):
        for parcel in some_parcels():
            row = sealed(parcel)
            self.assertEqual(frozen(row), frozen(own_sealed(parcel)))
            self.assertEqual(row[:-4], row_of(parcel))
            self.assertEqual(frozen(unsealed(row)), frozen((parcel,)))
        # The mark is 1000004, 0xf4244; its lowest byte is the first one.
        self.assertEqual(sealed(None), (0, 0x44, 0x42, 0x0F, 0))

    def test_changed(self):
        for parcel in [None, 300, "ab", (1, "a", None), ("forest", (None,), (0,))]:
            row = sealed(parcel)
            for place in range(len(row)):
                for byte in (0, 1, 2, 3, 128, 255, row[place] ^ 1, row[place] ^ 128):
                    if byte != row[place]:
                        self.assert_none(row[:place] + (byte,) + row[place + 1:])
                    if row[:place] + (byte,) + row[place:] != row:
                        self.assert_none(row[:place] + (byte,) + row[place:])
                self.assert_none(row[:place] + row[place + 1:])
                self.assert_none(row[:place])
            self.assert_none(row + (0,))
            self.assert_none(row[:-4] + row[-4:][::-1])
            self.assert_none(row + row)

    def test_short(self):
        for row in [(), (0,), (1, 0), (1, 0, 0), (1, 0, 0, 0), (0, 0, 0, 0), with_seal(())]:
            self.assert_none(row)

    def test_right_seals_of_no_parcels_rows(self):
        for row in [(), (7,), (3,), (3, 128, 0), (5, 0), (5, 1, 37), (0, 0), (6, 1), (6, 1) * 20 + (6, 0), (255,) * 30]:
            self.assert_none(with_seal(row))
        for parcel in some_parcels():
            self.assertEqual(unsealed(with_seal(row_of(parcel))), (parcel,))

    def test_other_things(self):
        row = sealed((1, 2))
        for thing in strange_things() + [list(row), 0, "ab", bytes(row), row[:-1] + (True,), (row,), row + (256,),
                                         row[:-1] + (-1,)] + package_errors():
            self.assert_none(thing)
        for thing in strange_things():
            self.assert_none(row + (thing,))
            self.assert_none((thing,) + row)
        # A flag is no byte, though it is equal to one.
        self.assert_none((True,) + sealed(False)[1:])
        self.assertEqual(unsealed((1,) + sealed(False)[1:]), (False,))


if __name__ == "__main__":
    unittest.main()
