"""deeds: what a keeping would do, and that keep does the same and fail begins the same."""

import unittest

from tests.lines import (begin, block, blocks_behind, deeds, deeds_behind, drop, end, fail, free, keep, last,
                         last_of, made, make, put, reopen, segments, told, work)

NINE = list(range(21, 30))
TEN = list(range(31, 41))
SCENES = (
    [],
    [keep()],
    made(1),
    [*made(1), keep()],
    [*made(1), keep(), keep(), *made(2)],
    [put(1, *TEN), put(2, *TEN), make(), *made(3, 4), drop(3), make(), keep(), put(4), make(), put(9)],
    [*made(1), *made(2), *made(3), keep(), begin(3, 1), work(4, 9), end(4), drop(1), make()],
    [*made(1), *made(2), keep(), begin(1, 2), work(3, 1), *made(3)],
    [*made(1), *made(2), *made(3), drop(2), make(), keep(), fail(1), *made(4)],
    [*made(1), keep(), *made(2), fail(4, 2), *made(3)],
)


def done(rows, deeds_done):
    """The rows that stand in the blocks when these deeds are done upon these."""
    behind = dict(rows)
    for deed in deeds_done:
        if deed is not None:
            behind[deed[0]] = deed[1]
    return behind


class Deeds(unittest.TestCase):
    def test_of_an_empty_house(self):
        self.assertEqual(told(deeds()), [[4, 1, 2, 3, 0, 1, 0, 0, 1, 1, 3, 1, 2, 66, 0]])

    def test_of_a_file_and_a_list_of_more_than_a_block(self):
        calls = [put(5, *TEN), make(), *made(6, 7), drop(6), drop(7), make()]
        self.assertEqual(deeds_behind(*calls), [(2, [3, 5, 10, *TEN[:9]]), (3, [0, 40]), (4, [0, 6, 0, 7, 0]),
                                                (5, [6, 3, 2, 1, 2, 1, 0, 2, 4, 2, 2, 0]), (6, [0, 1]), None,
                                                (1, [1, 5, 69]), None])
        self.assertEqual(last(*calls, deeds())[:4], [8, 1, 2, 12])

    def test_the_root_goes_by_turns(self):
        self.assertEqual(deeds_behind(keep())[2], (0, [2, 3, 131]))
        self.assertEqual(deeds_behind(keep(), keep())[2], (1, [3, 2, 194]))

    def test_nothing_is_done(self):
        for calls in SCENES:
            self.assertEqual(blocks_behind(*calls, deeds()), blocks_behind(*calls))
            asked = [deeds(), free(), segments(), make(), keep(), reopen(), segments()]
            self.assertEqual(last_of(7, *calls, deeds(), *asked), last_of(7, *calls, *asked))


class TheSameDeeds(unittest.TestCase):
    def test_keep_does_them_all(self):
        for calls in SCENES:
            todo = deeds_behind(*calls)
            self.assertEqual(blocks_behind(*calls, keep()), done(blocks_behind(*calls), todo))
            self.assertEqual(last(*calls, keep())[1], len(todo))

    def test_fail_begins_them(self):
        for calls in SCENES:
            todo = deeds_behind(*calls)
            for count in range(len(todo) + 1):
                self.assertEqual(blocks_behind(*calls, fail(count, *[99] * 64)),
                                 done(blocks_behind(*calls), todo[:count]))

    def test_fail_with_all_its_deeds_is_a_keeping_and_an_opening(self):
        for calls in SCENES:
            todo = deeds_behind(*calls)
            self.assertEqual(blocks_behind(*calls, fail(len(todo))), blocks_behind(*calls, keep()))
            asked = [segments(), free(), deeds()]
            self.assertEqual(last_of(3, *calls, fail(len(todo)), *asked),
                             last_of(3, *calls, keep(), reopen(), *asked))

    def test_an_opening_writes_nothing(self):
        for calls in SCENES:
            self.assertEqual(blocks_behind(*calls, reopen()), blocks_behind(*calls))


class BlockAndFree(unittest.TestCase):
    def test_ahead_of_and_behind_a_keeping(self):
        asked = [block(0), block(1), block(2), block(3), free()]
        answered = told(*made(5), *asked, keep(), *asked)
        self.assertEqual(answered[2:7], [[0], [0], [0], [0], [62, *range(2, 64)]])
        self.assertEqual(answered[7:], [[1, 5, 60], [0], [3, 1, 3, 67], [3, 0, 5, 0], [7, 0, 2, 1, 1, 2, 1, 0],
                                        [60, *range(4, 64)]])

    def test_ahead_of_and_behind_deeds(self):
        asked = [block(1), block(2), free()]
        self.assertEqual(last_of(7, *made(5), *asked, deeds(), *asked),
                         [[0], [0], [62, *range(2, 64)], last(*made(5), deeds()), [0], [0], [62, *range(2, 64)]])

    def test_ahead_of_and_behind_a_failed_keeping(self):
        asked = [block(1), block(2), block(3), free()]
        answered = last_of(9, *made(5), *asked, fail(2, 2, 1), *asked)
        self.assertEqual(answered, [[0], [0], [0], [62, *range(2, 64)], [0, 0],
                                    [0], [2, 0, 5], [1, 0], [62, *range(2, 64)]])

    def test_behind_a_keeping_that_failed_too_late(self):
        asked = [block(1), block(2), block(3), free()]
        self.assertEqual(last_of(5, *made(5), fail(4, 3), *asked),
                         [[1, 1], [3, 1, 3, 67], [3, 0, 5, 0], [7, 0, 2, 1, 1, 2, 1, 0], [60, *range(4, 64)]])


if __name__ == "__main__":
    unittest.main()
