"""Writes lines of calls as the document's interface tells, and takes answers apart again."""

from foundagain.house import answers


def put(key, *words):
    return [0, 1 + len(words), key, *words, 0]


def drop(key):
    return [1, 1, key, 0]


def make():
    return [2, 0, 0]


def begin(*numbers):
    return [3, len(numbers), *numbers, 0]


def work(merge, how_many):
    return [4, 2, merge, how_many, 0]


def end(merge):
    return [5, 1, merge, 0]


def tidy():
    return [6, 0, 0]


def segments():
    return [7, 0, 0]


def made(*keys):
    """Calls by which a segment of the texts of these keys is made."""
    return [put(key) for key in keys] + [make()]


def joined(calls):
    """The one list in which these calls stand."""
    return [number for call in calls for number in call]


def taken_apart(numbers):
    """The answers of each call, out of what `answers` gives back."""
    told = []
    place = 0
    while place < len(numbers):
        behind = place + 1 + numbers[place]
        told.append(numbers[place + 1:behind])
        place = behind
    return told


def told(*calls):
    """What a new house answers to each of these calls."""
    return taken_apart(answers(joined(calls)))


def last(*calls):
    """What a new house answers to the last of these calls."""
    return told(*calls)[-1]


def order_of(calls, numbers, merge, keys):
    """The order in which a merge of these segments, drawing this number, goes through these living keys.

    A key that dies ahead of its turn isn't copied: by how far the merge must have come for the
    key to be copied all the same, its place is told.
    """
    def copied(passed, key):
        return last(*calls, begin(*numbers), work(merge, passed), drop(key), make(), work(merge, 999), end(merge))[0]

    def turn(key):
        passed = 0
        while copied(passed, key) < copied(999, key):
            passed += 1
        return passed

    return sorted(keys, key=turn)
