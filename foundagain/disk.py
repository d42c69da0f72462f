"""The disk: its blocks with their rows, what is written into them, and how that is read again."""

BLOCKS = 64
# Blocks 0 and 1.
ROOTS = 2
# So many numbers at most of a row in blocks stand in each of them, behind the next block's number.
TO_EACH = 11


class Disk:
    """A row is replaced as a whole, never changed, so that it may be handed on as it is."""

    def __init__(self):
        self.blocks = [[] for block in range(BLOCKS)]

    def write(self, block, row):
        """Lets a block have just this row."""
        self.blocks[block] = row

    def tear(self, block, row, count):
        """Writes a row of which only so many of the first numbers came to be."""
        if count >= len(row):
            self.write(block, row)
        else:
            self.write(block, row[:count] + self.blocks[block][count:])

    def root(self):
        """The last keeping's number and its list's first block; 0 and 0 if no root holds."""
        last = (0, 0)
        for block in range(ROOTS):
            row = self.blocks[block]
            if holds(block, row) and row[0] > last[0]:
                last = (row[0], row[1])
        return last

    def chain(self, first):
        """The blocks of a row in blocks, in order, by its first one; none by 0."""
        chained = []
        block = first
        while block != 0:
            chained.append(block)
            block = self.blocks[block][0]
        return chained

    def read(self, first):
        """The numbers of a row in blocks, by its first block."""
        numbers = []
        for block in self.chain(first):
            numbers.extend(self.blocks[block][1:])
        return numbers


def blocks_for(numbers):
    """How many blocks these numbers take."""
    return (len(numbers) + TO_EACH - 1) // TO_EACH


def in_blocks(numbers, chosen):
    """The writings, each a block and its row, by which these numbers stand in the chosen blocks."""
    writings = []
    behind = chosen[1:] + [0]
    for place, block in enumerate(chosen):
        part = numbers[place * TO_EACH:(place + 1) * TO_EACH]
        writings.append((block, [behind[place]] + part))
    return writings


def root_writing(number, first):
    """The writing of a keeping's root, by its number and its list's first block."""
    return (number % ROOTS, [number, first, number * BLOCKS + first])


def holds(block, row):
    """Whether this row, in this one of the roots' blocks, is a root that holds."""
    if len(row) != 3 or row[1] >= BLOCKS or row[0] < 1:
        return False
    return row[2] == row[0] * BLOCKS + row[1] and row[0] % ROOTS == block
