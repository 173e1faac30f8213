"""Disks: blocks that are written, wait, and are synced or cut (DOC.md 6.3)."""

from cutlinked.errors import NoBlocks, NoCut, NoNumber, NoRow
from cutlinked.kinds import is_between
from cutlinked.parcels import is_byte_row, unsealed


class Disk:
    """Blocks, byte rows, as they were written; of those from some number on each waits."""

    def __init__(self):
        self._blocks = []
        self._synced = 0

    def write(self, row):
        """A block more, that waits: its number."""
        if not is_byte_row(row):
            raise NoRow()
        self._blocks.append(row)
        return len(self._blocks) - 1

    def sync(self):
        """None waits any more: how many did."""
        waited = len(self._blocks) - self._synced
        self._synced = len(self._blocks)
        return waited

    def blocks(self):
        """The list of all blocks."""
        return list(self._blocks)

    def synced(self):
        """How many blocks, from the first on, do not wait."""
        return self._synced

    def cut(self, kept):
        """The power is cut: of each block that waits so many of its first bytes are there."""
        waiting = self._blocks[self._synced:]
        if not _is_cut(waiting, kept):
            raise NoCut()
        self._blocks = self._blocks[:self._synced] + [row[:many] for row, many in zip(waiting, kept)]
        self._synced = len(self._blocks)

    def drop(self, number):
        """Let go of the blocks from this number on."""
        if not is_between(0, len(self._blocks), number):
            raise NoNumber()
        self._blocks = self._blocks[:number]
        self._synced = min(self._synced, number)

    def copy(self):
        """A Disk like this one, which goes on apart."""
        other = Disk()
        other._blocks = self.blocks()
        other._synced = self._synced
        return other


def _is_cut(waiting, thing):
    """Whether a thing tells for each block that waits how many of its first bytes are there."""
    if not isinstance(thing, tuple) or len(thing) != len(waiting):
        return False
    return all([is_between(0, len(row), many) for row, many in zip(waiting, thing)])


def kept_parcels(blocks):
    """The list of the parcels of the blocks, from the first on, as far as each is sealed of one."""
    if not isinstance(blocks, (list, tuple)) or not all([is_byte_row(row) for row in blocks]):
        raise NoBlocks()
    found = []
    for row in blocks:
        told = unsealed(row)
        if len(told) == 0:
            break
        found.append(told[0])
    return found
