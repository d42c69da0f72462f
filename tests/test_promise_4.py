"""Promise 4: what keep, fail, deeds and block refuse, and that a refusal changes nothing, on the disk either."""

import unittest

from tests.lines import (begin, block, blocks_behind, deeds, drop, end, fail, find, free, keep, last, last_of, made,
                         make, put, reopen, segments, text, told, work)

LARGEST = 4294967295
TEN = range(1, 11)


def of_numbers(count):
    """Calls by which a segment is made whose file has so many numbers: a text of ten words takes twelve."""
    whole, rest = divmod(count, 12)
    calls = [put(key, *TEN) for key in range(1, whole + 1)]
    if rest:
        calls.append(put(whole + 1, *TEN[:rest - 2]))
    return [*calls, make()]


# 62 blocks can be free. A list of one or two segments, of which nothing is dead, takes one of them.
JUST_ENOUGH = of_numbers(61 * 11)
ONE_TOO_FEW = of_numbers(61 * 11 + 1)
# What was kept takes 31 blocks. So does what is new: the merged segment's file has 320 numbers.
MERGED = [*of_numbers(312), put(40, *TEN[:6]), make(), keep(), begin(1, 2), work(3, 99), end(3)]
MERGED_AND_ONE_TOO_FEW = [*MERGED, *made(50)]


class Room(unittest.TestCase):
    def test_just_enough_free_blocks(self):
        self.assertEqual(last_of(2, *JUST_ENOUGH, keep(), free()), [[1, 65, 0], [0]])
        self.assertEqual(last(*JUST_ENOUGH, deeds())[0], 65)
        self.assertEqual(last(*JUST_ENOUGH, fail(65)), [1, 56])

    def test_one_free_block_too_few(self):
        for call in (keep(), deeds(), fail(0), fail(1), fail(65, *[99] * 65)):
            self.assertEqual(last(*ONE_TOO_FEW, call), [-5])

    def test_just_enough_beside_what_was_kept(self):
        self.assertEqual(last_of(2, *MERGED, free(), keep()), [[31, *range(33, 64)], [2, 34, 31]])
        self.assertEqual(last(*MERGED, deeds())[0], 34)
        self.assertEqual(last(*MERGED, fail(34)), [2, 27])

    def test_one_too_few_beside_what_was_kept(self):
        for call in (keep(), deeds(), fail(0), fail(35)):
            self.assertEqual(last(*MERGED_AND_ONE_TOO_FEW, call), [-5])

    def test_a_list_that_takes_one_block_more(self):
        # The list of one segment has eleven numbers with five dead, and twelve with six.
        for dead, answer in ((5, [2, 34, 31]), (6, [-5])):
            self.assertEqual(last(*MERGED, *[drop(key) for key in range(1, dead + 1)], make(), keep()), answer)

    def test_the_list_that_was_kept_last_is_not_free(self):
        self.assertEqual(last_of(3, *of_numbers(60 * 11), keep(), keep(), keep()), [[1, 64, 1], [2, 4, 1], [3, 4, 1]])
        self.assertEqual(last_of(3, *JUST_ENOUGH, keep(), keep(), free()), [[1, 65, 0], [-5], [0]])

    def test_what_a_failed_keeping_wrote_is_free(self):
        self.assertEqual(last_of(2, *JUST_ENOUGH, fail(62, *[99] * 62), free()), [[0, 0], [62, *range(2, 64)]])
        self.assertEqual(last_of(2, *JUST_ENOUGH, fail(64), free()), [[0, 0], [62, *range(2, 64)]])

    def test_there_is_room_again_behind_an_opening(self):
        self.assertEqual(last_of(3, *ONE_TOO_FEW, keep(), reopen(), keep()), [[-5], [0, 0], [1, 4, 61]])
        self.assertEqual(last_of(3, *MERGED_AND_ONE_TOO_FEW, keep(), reopen(), keep()), [[-5], [1, 27], [2, 4, 31]])


class Fail(unittest.TestCase):
    def test_as_many_deeds_as_a_keeping_has_and_one_more(self):
        # A file, the list, a flush, the root, a flush.
        self.assertEqual(last(*made(1), fail(0)), [0, 0])
        self.assertEqual(last(*made(1), fail(5)), [1, 1])
        self.assertEqual(last(*made(1), fail(6)), [-1])
        self.assertEqual(last(*made(1), fail(LARGEST)), [-1])

    def test_with_no_segment(self):
        self.assertEqual(told(fail(4), fail(5), fail(4), fail(5)), [[1, 0], [-1], [2, 0], [-1]])

    def test_too_few_free_blocks_are_told_first(self):
        self.assertEqual(last(*ONE_TOO_FEW, fail(67)), [-5])
        self.assertEqual(last(*ONE_TOO_FEW, fail(LARGEST, 1, 2)), [-5])
        self.assertEqual(last(*JUST_ENOUGH, fail(66)), [-1])
        self.assertEqual(last(*JUST_ENOUGH, keep(), fail(99)), [-5])


class Block(unittest.TestCase):
    def test_the_edges(self):
        self.assertEqual(told(block(0), block(63), block(64), block(LARGEST)), [[0], [0], [-1], [-1]])
        self.assertEqual(last_of(2, *JUST_ENOUGH, keep(), block(63), block(64)), [[7, 0, 2, 1, 1, 2, 56, 0], [-1]])


class Refusals(unittest.TestCase):
    def unchanged(self, calls, refused, answer):
        """That what stands on the disk, and what can be asked, is as if the refused call hadn't been."""
        self.assertEqual(last(*calls, refused), answer)
        self.assertEqual(blocks_behind(*calls, refused), blocks_behind(*calls))
        asked = [free(), deeds(), segments(), find(), text(40), drop(99), work(4, 1), end(4), make(), reopen(),
                 segments()]
        self.assertEqual(last_of(len(asked), *calls, refused, *asked), last_of(len(asked), *calls, *asked))

    def test_too_few_free_blocks_change_nothing(self):
        for refused in (keep(), deeds(), fail(0), fail(33, 5, 5), fail(99)):
            self.unchanged([*MERGED_AND_ONE_TOO_FEW, put(7), put(60)], refused, [-5])

    def test_more_deeds_than_there_are_change_nothing(self):
        calls = [*made(1), *made(2), keep(), *made(3), begin(3, 1), work(4, 1), put(40), drop(2)]
        for refused in (fail(7), fail(7, 9, 9, 9), fail(LARGEST)):
            self.unchanged(calls, refused, [-1])
        # What isn't refused opens the house, and the merge is gone.
        self.assertEqual(last_of(2, *calls, fail(6), work(4, 1)), [[2, 3], [-2]])

    def test_a_block_that_is_not_there_changes_nothing(self):
        self.unchanged([*made(1), keep(), *made(2), put(3)], block(64), [-1])


if __name__ == "__main__":
    unittest.main()
