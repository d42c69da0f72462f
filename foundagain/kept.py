"""What is kept of a house: a segment's file and the list, as numbers and read again from the disk."""

from foundagain.disk import BLOCKS, ROOTS
from foundagain.segment import Segment
from foundagain.state import House


def file_of(segment):
    """The numbers of a segment's file."""
    numbers = []
    for key, words in segment.texts:
        numbers.extend([key, len(words)])
        numbers.extend(words)
    return numbers


def list_of(house, files):
    """The numbers of the list; files tells by a segment's number its file's first block."""
    numbers = [house.upcoming, len(house.row)]
    for segment in house.row:
        dead = segment.dead()
        numbers.extend([segment.number, files[segment.number], len(segment.texts), len(dead)])
        numbers.extend(dead)
    return numbers


def entries_of(listed):
    """The parts of a list's numbers, one for each segment."""
    entries = []
    place = 2
    while place < len(listed):
        behind = place + 4 + listed[place + 3]
        entries.append(listed[place:behind])
        place = behind
    return entries


def segment_kept(disk, entry):
    """The segment of which the list has this part."""
    segment = Segment(entry[0])
    segment.file = entry[1]
    numbers = disk.read(segment.file)
    place = 0
    while place < len(numbers):
        first = place + 2
        behind = first + numbers[place + 1]
        segment.take(numbers[place], numbers[first:behind])
        place = behind
    segment.bury_at(entry[4:])
    return segment


def house_kept(disk):
    """The house as it was kept last, with nothing in it if it never was."""
    listed = disk.read(disk.root()[1])
    if not listed:
        return House([], 1)
    return House([segment_kept(disk, entry) for entry in entries_of(listed)], listed[0])


def free_blocks(disk):
    """The blocks, rising, in which neither a root stands nor what was kept last."""
    first = disk.root()[1]
    taken = disk.chain(first)
    for entry in entries_of(disk.read(first)):
        taken.extend(disk.chain(entry[1]))
    return [block for block in range(ROOTS, BLOCKS) if block not in taken]
