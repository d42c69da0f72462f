"""A keeping: the blocks that are chosen for what is new, and its deeds."""

from foundagain.disk import blocks_for, in_blocks, root_writing
from foundagain.kept import file_of, list_of


class NoRoom(Exception):
    """There aren't as many free blocks as a keeping writes."""


class Keeping:
    """Chooses all blocks ahead of all deeds; neither the house nor the disk is changed by that."""

    def __init__(self, number, house, free):
        self.number = number
        self.left = free
        self.writings = []
        # By each segment's number its file's first block.
        self.files = {}
        for segment in house.row:
            self.files[segment.number] = segment.file
            if segment.file == 0:
                self.files[segment.number] = self.place_row(file_of(segment))
        self.first = self.place_row(list_of(house, self.files))

    def place_row(self, numbers):
        """Writes these numbers into the lowest blocks left, and gives back the first of these."""
        count = blocks_for(numbers)
        if count > len(self.left):
            raise NoRoom()
        chosen = self.left[:count]
        self.left = self.left[count:]
        self.writings.extend(in_blocks(numbers, chosen))
        return chosen[0]

    def deeds(self):
        """Its deeds in order: a block and its row for a writing, None for a flush."""
        return self.writings + [None, root_writing(self.number, self.first), None]


def made_sure(deeds):
    """How many of these deeds stand up to the last flush among them, with it."""
    sure = 0
    for place, deed in enumerate(deeds):
        if deed is None:
            sure = place + 1
    return sure
