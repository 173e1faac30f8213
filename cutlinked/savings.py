"""Kept forests whose deeds are noted on a disk, and go on by it (DOC.md 6.4)."""

from cutlinked.asks import is_ask
from cutlinked.deeds import is_deed
from cutlinked.disks import Disk, kept_parcels
from cutlinked.errors import NoAsk, NoDisk, OtherForest
from cutlinked.kepts import Kept, kept_of
from cutlinked.kinds import word_of
from cutlinked.parcels import sealed, unsealed
from cutlinked.shapes import is_shape, told_forest


class SavedKept:
    """A Kept, and the disk on which its forest, its deeds and some of its shapes are noted."""

    def __init__(self, forest, disk):
        if not isinstance(disk, Disk):
            raise NoDisk()
        _begin_on(disk, forest)
        self._disk = disk
        self._kept = Kept(forest)
        self._go_on_by_blocks()

    def _go_on_by_blocks(self):
        """Go on by the blocks behind the first one; let go of those from the first that tells nothing on."""
        parcels = kept_parcels(self._disk.blocks())
        done = 1
        while done < len(parcels) and self._goes_on_by(parcels[done]):
            done += 1
        self._disk.drop(done)
        self._disk.sync()

    def _goes_on_by(self, parcel):
        """Go on by what a block tells: whether it tells anything."""
        word = word_of(parcel)
        if word not in ("deed", "shape") or len(parcel) != 2:
            return False
        standing = self._kept.forest()
        if word == "deed" and is_deed(standing, parcel[1]):
            self._kept.deed(parcel[1])
            return True
        if word == "shape" and is_shape(parcel[1]) and told_forest(parcel[1]) == standing:
            self._kept = kept_of(parcel[1])
            return True
        return False

    def deed(self, thing):
        """Do a deed, and write its block."""
        self._kept.deed(thing)
        self._disk.write(sealed(("deed", thing)))

    def ask(self, thing):
        """The answer to an ask; what was done until now lasts from then on."""
        if not is_ask(len(self._kept.shape()), thing):
            raise NoAsk()
        self._disk.sync()
        return self._kept.ask(thing)

    def shape(self):
        """The shape that stands."""
        return self._kept.shape()

    def forest(self):
        """The forest that the shape tells."""
        return self._kept.forest()

    def papers(self):
        """The list of the papers of all reachings since it began, or its shape was kept last."""
        return self._kept.papers()

    def links(self):
        """How many links were done since then."""
        return self._kept.links()

    def spent(self):
        """The sum of the first, the met and the last of all papers."""
        return self._kept.spent()

    def bound(self):
        """How much spent is at most."""
        return self._kept.bound()

    def copy(self):
        """A Kept like this one, without a disk, which goes on apart."""
        return self._kept.copy()

    def keep(self):
        """Write a block of the shape, and go on from it: how many blocks there are."""
        standing = self._kept.shape()
        self._disk.write(_block_of_shape(standing))
        self._disk.sync()
        self._kept = kept_of(standing)
        return len(self._disk.blocks())

    def moved(self, disk):
        """A SavedKept of the forest that stands, over another disk without blocks, in this shape."""
        if not isinstance(disk, Disk) or disk == self._disk or len(disk.blocks()) > 0:
            raise NoDisk()
        standing = self._kept.forest()
        disk.write(_block_of_forest(standing))
        disk.write(_block_of_shape(self._kept.shape()))
        return SavedKept(standing, disk)


def _begin_on(disk, forest):
    """Let the first block of a disk be that of the forest."""
    first = _block_of_forest(forest)
    blocks = disk.blocks()
    if len(blocks) > 0 and blocks[0] == first:
        return
    if len(blocks) > 0 and _is_of_a_forest(unsealed(blocks[0])):
        raise OtherForest()
    disk.drop(0)
    disk.write(first)


def _is_of_a_forest(told):
    """Whether what a block is sealed of, in a tuple, looks like what the first block tells."""
    return len(told) == 1 and word_of(told[0]) == "forest" and len(told[0]) == 3


def _block_of_forest(forest):
    """The first block over a forest."""
    return sealed(("forest", forest.parents, forest.worths))


def _block_of_shape(shape):
    """The block of a shape that is kept."""
    return sealed(("shape", shape))
