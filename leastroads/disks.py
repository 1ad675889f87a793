"""Disks: blocks that are written, and may be lost until they are synced."""

from leastroads.errors import NoBlocks, NoCut, NoNumber
from leastroads.kinds import is_list_or_tuple, is_number, is_tuple_of_numbers
from leastroads.rows import is_row, require_row, unsealed


class Disk:
    """Rows, one behind the other; those behind the first many_synced wait."""

    def __init__(self):
        self.rows = []
        self.many_synced = 0

    def write(self, row):
        """Writes a block behind the others, which waits; returns its number."""
        require_row(row)
        self.rows.append(row)
        return len(self.rows) - 1

    def sync(self):
        """No block waits any more; returns how many did."""
        many = len(self.rows) - self.many_synced
        self.many_synced = len(self.rows)
        return many

    def blocks(self):
        """The list of all blocks."""
        return list(self.rows)

    def synced(self):
        """How many blocks, from the first on, do not wait."""
        return self.many_synced

    def cut(self, kept):
        """The power is cut: of each block that waits so many of its first bytes are there."""
        waiting = self.rows[self.many_synced:]
        if not is_tuple_of_numbers(kept) or len(kept) != len(waiting):
            raise NoCut()
        if any([number > len(row) for number, row in zip(kept, waiting)]):
            raise NoCut()
        left = [row[:number] for number, row in zip(kept, waiting)]
        self.rows = self.rows[:self.many_synced] + left
        self.many_synced = len(self.rows)

    def drop(self, number):
        """Lets go of the blocks from this number on."""
        if not is_number(number) or number > len(self.rows):
            raise NoNumber()
        self.rows = self.rows[:number]
        self.many_synced = min(self.many_synced, number)

    def copy(self):
        """Another Disk that goes on apart."""
        other = Disk()
        other.rows = list(self.rows)
        other.many_synced = self.many_synced
        return other


def kept_parcels(blocks):
    """The list of the parcels of which the first blocks are sealed, up to one that is sealed of none."""
    if not is_list_or_tuple(blocks) or not all([is_row(block) for block in blocks]):
        raise NoBlocks()
    found = []
    for block in blocks:
        parcels = unsealed(block)
        if parcels == ():
            return found
        found.append(parcels[0])
    return found
