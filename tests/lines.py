"""Writes lines of calls as the document's interface tells, and takes answers apart again."""

from foundagain.house import answers


def put(key, *words):
    return [0, 1 + len(words), key, *words, 0]


def drop(key):
    return [1, 1, key, 0]


def make():
    return [2, 0, 0]


def begin(*numbers):
    return [3, len(numbers), *numbers, 0]


def work(merge, how_many):
    return [4, 2, merge, how_many, 0]


def end(merge):
    return [5, 1, merge, 0]


def tidy():
    return [6, 0, 0]


def segments():
    return [7, 0, 0]


def find(*words):
    return [8, len(words), *words, 0]


def text(key):
    return [9, 1, key, 0]


def keep():
    return [10, 0, 0]


def fail(deeds, *counts):
    return [11, 1 + len(counts), deeds, *counts, 0]


def reopen():
    return [12, 0, 0]


def deeds():
    return [13, 0, 0]


def block(number):
    return [14, 1, number, 0]


def free():
    return [15, 0, 0]


def made(*keys):
    """Calls by which a segment of the texts of these keys is made."""
    return [put(key) for key in keys] + [make()]


def joined(calls):
    """The one list in which these calls stand."""
    return [number for call in calls for number in call]


def taken_apart(numbers):
    """The answers of each call, out of what `answers` gives back."""
    told = []
    place = 0
    while place < len(numbers):
        behind = place + 1 + numbers[place]
        told.append(numbers[place + 1:behind])
        place = behind
    return told


def told(*calls):
    """What a new house answers to each of these calls."""
    return taken_apart(answers(joined(calls)))


def last(*calls):
    """What a new house answers to the last of these calls."""
    return told(*calls)[-1]


def last_of(count, *calls):
    """What a new house answers to the last of these calls, so many of them."""
    return told(*calls)[-count:]


def blocks_behind(*calls):
    """The rows that stand in the blocks behind these calls, by their blocks; those without numbers are left out."""
    rows = {}
    for first in range(0, 64, 16):
        # No line has more than 60 calls, so the blocks are asked in four parts.
        asked = range(first, first + 16)
        for number, answer in zip(asked, last_of(16, *calls, *[block(number) for number in asked])):
            if answer != [0]:
                rows[number] = answer[1:]
    return rows


def deeds_told(answer):
    """The deeds, a block and its row for a writing and None for a flush, out of an answer of deeds."""
    found = []
    place = 1
    while place < len(answer):
        if answer[place] == 0:
            found.append(None)
            place += 1
        else:
            behind = place + 3 + answer[place + 2]
            found.append((answer[place + 1], answer[place + 3:behind]))
            place = behind
    assert len(found) == answer[0] and place == len(answer)
    return found


def deeds_behind(*calls):
    """The deeds that a keeping would do behind these calls."""
    return deeds_told(last(*calls, deeds()))


def order_of(calls, numbers, merge, keys):
    """The order in which a merge of these segments, drawing this number, goes through these living keys.

    A key that dies ahead of its turn isn't copied: by how far the merge must have come for the
    key to be copied all the same, its place is told.
    """
    def copied(passed, key):
        return last(*calls, begin(*numbers), work(merge, passed), drop(key), make(), work(merge, 999), end(merge))[0]

    def turn(key):
        passed = 0
        while copied(passed, key) < copied(999, key):
            passed += 1
        return passed

    return sorted(keys, key=turn)
