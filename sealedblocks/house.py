"""The house: one key of 32 bytes, and the blocks that are kept under it."""

from sealedblocks.cipher import expanded
from sealedblocks.marks import mark_of
from sealedblocks.rows import lowest_first
from sealedblocks.sealing import sealed, unsealed


class House:
    """A key's two halves as rounds' keys, and the blocks that are there, by number, as they are kept."""

    def __init__(self, key):
        self.first = expanded(key[:16])
        self.second = expanded(key[16:])
        self.blocks = {}

    def has_block(self, number):
        return number in self.blocks

    def keep(self, number, row):
        """The block is kept as this row, as it is."""
        self.blocks[number] = row

    def write(self, number, row):
        """The block is this row, sealed."""
        self.blocks[number] = sealed(self.first, self.second, number, row)

    def raw(self, number):
        """The block as it's kept."""
        return self.blocks[number]

    def read(self, number):
        """The block opened."""
        return unsealed(self.first, self.second, number, self.blocks[number])

    def drop(self, number):
        """The block isn't there any more."""
        self.blocks.pop(number)

    def move(self, source, target):
        """The source is the target, and reads as it did; how many bytes."""
        row = self.read(source)
        # Dropped ahead of the writing, so that a block moved onto itself stays.
        self.drop(source)
        self.write(target, row)
        return len(row)

    def rekey(self, key):
        """The key is this one, and all blocks read as they did; how many there are."""
        opened = {}
        for number in self.blocks:
            opened[number] = self.read(number)
        self.first = expanded(key[:16])
        self.second = expanded(key[16:])
        for number in opened:
            self.write(number, opened[number])
        return len(opened)

    def mark(self, number):
        """The mark of the block's number and the block as it's kept, by the first key."""
        return mark_of(self.first, lowest_first(number, 8) + self.blocks[number])
