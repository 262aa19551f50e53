"""The journal: an image and the records behind it, on a disk whose power may be lost."""

from pastamended.errors import DiskFull
from pastamended.records import read_block, record_blocks

ROOT = 0


class Journal:
    """Divides a disk into the root, two areas for images and the log, and recovers from what stands there."""

    def __init__(self, disk):
        self.disk = disk
        self.area = (disk.size - 1) // 3
        self.generation = self._generation_of_root()
        self.image_number = 0
        self.image = ""
        if self.generation > 0:
            _, self.image_number, self.image, _ = self._whole_at(self._area_of(self.generation))
        self.number = self.image_number
        self.texts = []
        # The index behind the last record that counts.
        self.end = self._log()
        self._read_log()
        self._empty_log()

    def records(self):
        """The numbers and texts of the records that count."""
        return [(self.image_number + 1 + at, text) for at, text in enumerate(self.texts)]

    def has_room(self, text):
        """Whether the log has enough blocks left for a record with this text."""
        return self.end + len(self._next_blocks(text)) <= self.disk.size

    def write_record(self, text):
        """Writes the next record."""
        blocks = self._next_blocks(text)
        if not self.has_room(text):
            raise DiskFull()
        self._write_blocks(self.end, blocks)
        self.end += len(blocks)
        self.number += 1
        self.texts.append(text)

    def checkpoint(self, text):
        """Writes an image that takes the place of the old one and of the records."""
        generation = self.generation + 1
        blocks = record_blocks(generation, self.number, text)
        if len(blocks) > self.area:
            raise DiskFull()
        self._write_blocks(self._area_of(generation), blocks)
        # The root is written only when the image lasts: until then the old image counts.
        self._write_blocks(ROOT, [f"root {generation}"])
        self.generation = generation
        self.image_number = self.number
        self.image = text
        self.texts = []
        self.end = self._log()

    def _log(self):
        """The index of the first block of the log."""
        return 2 * self.area + 1

    def _area_of(self, generation):
        """The index of the first block of the area for the image of a generation."""
        return 1 if generation & 1 == 1 else self.area + 1

    def _generation_of_root(self):
        root = self.disk.block(ROOT)
        return 0 if root == "" else int(root.split(" ")[1])

    def _next_blocks(self, text):
        return record_blocks(self.generation, self.number + 1, text)

    def _write_blocks(self, start, blocks):
        """Writes the blocks one behind the other and syncs."""
        for at, block in enumerate(blocks):
            self.disk.write(start + at, block)
        self.disk.sync()

    def _read_log(self):
        """Takes the records that count from the log."""
        found = self._whole_at(self.end)
        while found is not None and found[:2] == (self.generation, self.number + 1):
            _, self.number, text, self.end = found
            self.texts.append(text)
            found = self._whole_at(self.end)

    def _empty_log(self):
        """Empties the blocks behind the last record: so no later record can be mixed with what is left of another."""
        left = [index for index in range(self.end, self.disk.size) if self.disk.block(index) != ""]
        for index in left:
            self.disk.write(index, "")
        if left:
            self.disk.sync()

    def _whole_at(self, start):
        """The tuple (generation, number, text, end) of the record with all its blocks from a start on, or None."""
        first = self._block_at(start)
        if first is None:
            return None
        generation, number, _, pieces, _ = first
        text = ""
        for index in range(pieces):
            block = self._block_at(start + index)
            if block is None or block[:4] != (generation, number, index, pieces):
                return None
            text += block[4]
        return (generation, number, text, start + pieces)

    def _block_at(self, index):
        """What read_block gives for a block; None if there is no such block."""
        return read_block(self.disk.block(index)) if index < self.disk.size else None
