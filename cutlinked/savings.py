"""Kept forests whose deeds are noted on a disk, and go on by it (DOC.md 6.4)."""

from cutlinked.asks import is_ask
from cutlinked.deeds import is_deed
from cutlinked.disks import Disk, kept_parcels
from cutlinked.errors import NoAsk, NoDisk, OtherForest
from cutlinked.kepts import Kept
from cutlinked.kinds import word_of
from cutlinked.parcels import sealed, unsealed
from cutlinked.shapes import is_shape, stands_of, told_forest


class SavedKept(Kept):
    """A Kept, and the disk on which its forest, its deeds and some of its shapes are noted."""

    def __init__(self, forest, disk):
        if not isinstance(disk, Disk):
            raise NoDisk()
        _begin_on(disk, forest)
        super().__init__(forest)
        self._disk = disk
        self._go_on_by_blocks()

    def _go_on_by_blocks(self):
        """Go on by the blocks behind the first one; let go of those from the first that tells nothing on."""
        parcels = kept_parcels(self._disk.blocks())
        done = 1
        while done < len(parcels) and self._goes_on_by(parcels[done]):
            done += 1
        self._disk.drop(done)
        self._disk.sync()

    def _goes_on_by(self, parcel):
        """Go on by what a block tells: whether it tells anything."""
        word = word_of(parcel)
        if word not in ("deed", "shape") or len(parcel) != 2:
            return False
        told = parcel[1]
        if word == "deed" and is_deed(self.forest(), told):
            super().deed(told)
            return True
        if word == "shape" and is_shape(told) and told_forest(told) == self.forest():
            self._begin(stands_of(told))
            return True
        return False

    def deed(self, thing):
        """Do a deed, and write its block."""
        super().deed(thing)
        self._disk.write(sealed(("deed", thing)))

    def ask(self, thing):
        """The answer to an ask; what was done until now lasts from then on."""
        if not is_ask(len(self.shape()), thing):
            raise NoAsk()
        self._disk.sync()
        return super().ask(thing)

    def shape(self):
        """The shape that stands."""
        return super().shape()

    def forest(self):
        """The forest that the shape tells."""
        return super().forest()

    def papers(self):
        """The list of the papers of all reachings since it began, or its shape was kept last."""
        return super().papers()

    def links(self):
        """How many links were done since then."""
        return super().links()

    def spent(self):
        """The sum of the first, the met and the last of all papers."""
        return super().spent()

    def bound(self):
        """How much spent is at most."""
        return super().bound()

    def copy(self):
        """A Kept like this one, without a disk, which goes on apart."""
        return super().copy()

    def keep(self):
        """Write a block of the shape, and go on from it: how many blocks there are."""
        standing = self.shape()
        self._disk.write(_block_of_shape(standing))
        self._disk.sync()
        self._begin(stands_of(standing))
        return len(self._disk.blocks())

    def moved(self, disk):
        """A SavedKept of the forest that stands, over another disk without blocks, in this shape."""
        if not isinstance(disk, Disk) or disk == self._disk or len(disk.blocks()) > 0:
            raise NoDisk()
        standing = self.forest()
        disk.write(_block_of_forest(standing))
        disk.write(_block_of_shape(self.shape()))
        return SavedKept(standing, disk)


def _begin_on(disk, forest):
    """Let the first block of a disk be that of the forest."""
    first = _block_of_forest(forest)
    blocks = disk.blocks()
    if len(blocks) > 0 and blocks[0] == first:
        return
    if len(blocks) > 0 and _is_of_a_forest(unsealed(blocks[0])):
        raise OtherForest()
    disk.drop(0)
    disk.write(first)


def _is_of_a_forest(told):
    """Whether what a block is sealed of, in a tuple, looks like what the first block tells."""
    return len(told) == 1 and word_of(told[0]) == "forest" and len(told[0]) == 3


def _block_of_forest(forest):
    """The first block over a forest."""
    return sealed(("forest", forest.parents, forest.worths))


def _block_of_shape(shape):
    """The block of a shape that is kept."""
    return sealed(("shape", shape))
