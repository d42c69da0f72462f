"""A house and its disk, between which keeping and opening go."""

from foundagain.disk import BLOCKS, Disk
from foundagain.keeping import Keeping, NoRoom, made_sure
from foundagain.kept import free_blocks, house_kept


class Keeper:
    """A method that a call names gives back the numbers answered; one number below 0 is a refusal.

    What was kept last is always read from the disk, so that nothing else can tell otherwise of it.
    """

    def __init__(self):
        self.disk = Disk()
        self.house = house_kept(self.disk)

    def keep(self):
        """Keeps the house."""
        try:
            keeping = self.upcoming_keeping()
        except NoRoom:
            return [-5]
        deeds = keeping.deeds()
        self.write_all(deeds)
        for segment in self.house.row:
            segment.file = keeping.files[segment.number]
        return [keeping.number, len(deeds), len(free_blocks(self.disk))]

    def fail(self, how_many, counts):
        """Begins a keeping, lets the power go behind so many deeds, and opens the house."""
        try:
            deeds = self.upcoming_keeping().deeds()
        except NoRoom:
            return [-5]
        if how_many > len(deeds):
            return [-1]
        sure = made_sure(deeds[:how_many])
        self.write_all(deeds[:sure])
        # A loose write without a count didn't come to be, and a count without one means nothing.
        for writing, count in zip(deeds[sure:how_many], counts):
            self.disk.tear(writing[0], writing[1], count)
        return self.reopen()

    def reopen(self):
        """Opens the house as its disk is."""
        self.house = house_kept(self.disk)
        return [self.disk.root()[0], self.house.living()]

    def deeds(self):
        """Tells what a keeping would do now."""
        try:
            deeds = self.upcoming_keeping().deeds()
        except NoRoom:
            return [-5]
        told = [len(deeds)]
        for deed in deeds:
            if deed is None:
                told.append(0)
            else:
                told.extend([1, deed[0], len(deed[1])])
                told.extend(deed[1])
        return told

    def block(self, number):
        """Tells the row of a block."""
        if number >= BLOCKS:
            return [-1]
        row = self.disk.blocks[number]
        return [len(row)] + row

    def free(self):
        """Tells which blocks are free."""
        blocks = free_blocks(self.disk)
        return [len(blocks)] + blocks

    def upcoming_keeping(self):
        """The keeping that would be the next."""
        return Keeping(self.disk.root()[0] + 1, self.house, free_blocks(self.disk))

    def write_all(self, deeds):
        """Does the writings among these deeds, whole."""
        for deed in deeds:
            if deed is not None:
                self.disk.write(deed[0], deed[1])
