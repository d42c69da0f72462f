"""The power goes: what came to be of the writes of a keeping, behind each of its deeds."""

import unittest

from tests.lines import (begin, block, blocks_behind, deeds_behind, drop, end, fail, find, free, keep, last,
                         last_of, made, make, put, reopen, segments, text, work)

LARGEST = 4294967295
TEN = list(range(31, 41))
# A file of twelve numbers in 2 and 3, the list in 4, a flush, the root, a flush.
NEW = [put(5, *TEN), make()]
FILE_AND_LIST = {2: [3, 5, 10, *TEN[:9]], 3: [0, 40], 4: [0, 2, 1, 1, 2, 1, 0]}
# The same upon a disk in whose blocks other rows stand: in 2 a longer one than [0, 7, 0], in 3 a shorter list.
OLD = [put(5, *TEN), make(), fail(3, 99, 99, 99)]


class NothingTold(unittest.TestCase):
    def test_behind_no_deed_and_each_deed_in_turn(self):
        for count in range(4):
            self.assertEqual(last(*NEW, fail(count)), [0, 0])
            self.assertEqual(blocks_behind(*NEW, fail(count)), {})
        for count in (4, 5):
            self.assertEqual(last(*NEW, fail(count)), [0, 0])
            self.assertEqual(blocks_behind(*NEW, fail(count)), FILE_AND_LIST)
        self.assertEqual(last(*NEW, fail(6)), [1, 1])
        self.assertEqual(blocks_behind(*NEW, fail(6)), {1: [1, 4, 68], **FILE_AND_LIST})

    def test_behind_each_deed_of_a_keeping_with_one_before(self):
        calls = [*made(1, 2), keep(), drop(1), make(), *made(3)]
        for count, answer in ((0, [1, 2]), (1, [1, 2]), (2, [1, 2]), (3, [1, 2]), (4, [1, 2]), (5, [2, 2]), (6, [-1])):
            self.assertEqual(last(*calls, fail(count)), answer)
        self.assertEqual(last_of(2, *calls, fail(4), find()), [[1, 2], [2, 1, 2]])
        self.assertEqual(last_of(2, *calls, fail(5), find()), [[2, 2], [2, 2, 3]])

    def test_the_house_is_opened(self):
        calls = [*made(1), *made(2), keep(), put(9), begin(1, 2), work(3, 2), *made(4), fail(0)]
        self.assertEqual(last_of(5, *calls, segments(), work(3, 1), make(), begin(2, 1)),
                         [[1, 2], [2, 1, 1, 1, 2, 1, 1], [-2], [2], [3]])


class LooseWrites(unittest.TestCase):
    def test_none_of_their_numbers(self):
        self.assertEqual(blocks_behind(*NEW, fail(3, 0, 0, 0)), {})

    def test_their_first_numbers(self):
        self.assertEqual(blocks_behind(*NEW, fail(3, 1, 1, 1)), {2: [3], 3: [0], 4: [0]})
        self.assertEqual(blocks_behind(*NEW, fail(3, 11, 1, 6)),
                         {2: [3, 5, 10, *TEN[:8]], 3: [0], 4: [0, 2, 1, 1, 2, 1]})

    def test_just_all_and_more(self):
        self.assertEqual(blocks_behind(*NEW, fail(3, 12, 2, 7)), FILE_AND_LIST)
        self.assertEqual(blocks_behind(*NEW, fail(3, 13, 3, 8)), FILE_AND_LIST)
        self.assertEqual(blocks_behind(*NEW, fail(3, *[LARGEST] * 3)), FILE_AND_LIST)

    def test_in_their_order(self):
        self.assertEqual(blocks_behind(*NEW, fail(3, 0, 99, 0)), {3: [0, 40]})
        self.assertEqual(blocks_behind(*NEW, fail(3, 0, 0, 99)), {4: FILE_AND_LIST[4]})
        self.assertEqual(blocks_behind(*NEW, fail(3, 99, 0, 2)), {2: FILE_AND_LIST[2], 4: [0, 2]})

    def test_fewer_told_than_there_are(self):
        self.assertEqual(blocks_behind(*NEW, fail(3, 99)), {2: FILE_AND_LIST[2]})
        self.assertEqual(blocks_behind(*NEW, fail(3, 2, 1)), {2: [3, 5], 3: [0]})

    def test_more_told_than_there_are(self):
        self.assertEqual(blocks_behind(*NEW, fail(1, 2, 99, 99, 99, 99, 99)), {2: [3, 5]})
        self.assertEqual(blocks_behind(*NEW, fail(0, *[99] * 400)), {})
        self.assertEqual(blocks_behind(*NEW, fail(5, 1, *[99] * 399)), {1: [1], **FILE_AND_LIST})
        self.assertEqual(blocks_behind(*NEW, fail(6, *[99] * 400)), {1: [1, 4, 68], **FILE_AND_LIST})

    def test_those_with_a_flush_behind_them_came_to_be_whatever_is_told(self):
        for counts in ([], [0], [0, 0, 0], [0, 1, 1, 1], [0] * 400):
            self.assertEqual(blocks_behind(*NEW, fail(4, *counts)), FILE_AND_LIST)
            self.assertEqual(blocks_behind(*NEW, fail(5, *counts)), FILE_AND_LIST)
            self.assertEqual(blocks_behind(*NEW, fail(6, *counts)), {1: [1, 4, 68], **FILE_AND_LIST})
            self.assertEqual(last(*NEW, fail(6, *counts)), [1, 1])


class UponOtherRows(unittest.TestCase):
    def test_what_stands_there(self):
        self.assertEqual(blocks_behind(*OLD), FILE_AND_LIST)
        self.assertEqual(deeds_behind(*OLD, put(7), make())[:2], [(2, [0, 7, 0]), (3, [0, 2, 1, 1, 2, 1, 0])])

    def test_a_write_over_a_longer_row(self):
        calls = [*OLD, put(7), make()]
        longer = FILE_AND_LIST[2]
        for count, row in ((0, longer), (1, [0, *longer[1:]]), (2, [0, 7, *longer[2:]]), (3, [0, 7, 0]), (4, [0, 7, 0]),
                           (11, [0, 7, 0]), (12, [0, 7, 0]), (LARGEST, [0, 7, 0])):
            self.assertEqual(last(*calls, fail(1, count), block(2)), [len(row), *row])

    def test_a_write_over_a_shorter_row(self):
        calls = [*OLD, put(7), make()]
        for count, row in ((0, [0, 40]), (1, [0, 40]), (2, [0, 2]), (3, [0, 2, 1]), (6, [0, 2, 1, 1, 2, 1]),
                           (7, [0, 2, 1, 1, 2, 1, 0]), (8, [0, 2, 1, 1, 2, 1, 0])):
            self.assertEqual(last(*calls, fail(2, 0, count), block(3)), [len(row), *row])

    def test_a_write_over_a_row_of_its_own_length(self):
        calls = [*OLD, put(9, *range(1, 11)), make()]
        self.assertEqual(last(*calls, fail(1, 4), block(2)), [12, 3, 9, 10, 1, *TEN[1:9]])

    def test_a_write_over_a_torn_row(self):
        calls = [*NEW, fail(1, 5), put(7, 1), make(), fail(1, 2), block(2)]
        self.assertEqual(last(*calls), [5, 0, 7, 10, 31, 32])

    def test_a_flushed_write_leaves_nothing_of_the_row_before(self):
        calls = [*OLD, put(7), make(), fail(3)]
        self.assertEqual(blocks_behind(*calls), {2: [0, 7, 0], 3: [0, 2, 1, 1, 2, 1, 0], 4: FILE_AND_LIST[4]})


class TornRoots(unittest.TestCase):
    def test_the_first_one(self):
        for count, row, answer in ((0, [], [0, 0]), (1, [1], [0, 0]), (2, [1, 4], [0, 0]), (3, [1, 4, 68], [1, 1]),
                                   (4, [1, 4, 68], [1, 1])):
            self.assertEqual(last_of(2, *NEW, fail(5, count), block(1)), [answer, [len(row), *row]])

    def test_one_over_an_older_one(self):
        calls = [*made(1), keep(), *made(2), keep(), *made(3)]
        self.assertEqual([deed and deed[0] for deed in deeds_behind(*calls)], [3, 6, 7, None, 1, None])
        for count, row, answer in ((0, [1, 3, 67], [2, 2]), (1, [3, 3, 67], [2, 2]), (2, [3, 6, 67], [2, 2]),
                                   (3, [3, 6, 198], [3, 3]), (99, [3, 6, 198], [3, 3])):
            self.assertEqual(last_of(2, *calls, fail(5, count), block(1)), [answer, [3, *row]])

    def test_one_over_a_torn_one(self):
        calls = [*made(1), keep(), keep(), *made(2), fail(4, 2)]
        self.assertEqual(last_of(2, *calls, block(1)), [[2, 1], [3, 3, 5, 67]])
        for count, row, answer in ((0, [3, 5, 67], [2, 1]), (1, [3, 5, 67], [2, 1]), (2, [3, 3, 67], [2, 1]),
                                   (3, [3, 3, 195], [3, 1])):
            self.assertEqual(last_of(2, *calls, fail(3, count), block(1)), [answer, [3, *row]])
        self.assertEqual(last_of(3, *calls, *made(8), keep(), find()), [[2], [3, 5, 59], [2, 1, 8]])

    def test_the_root_is_the_first_loose_write_behind_the_first_flush(self):
        self.assertEqual(last(*NEW, fail(5, 3)), [1, 1])
        self.assertEqual(last(*NEW, fail(5, 2, 3, 3, 3, 3)), [0, 0])


class BehindIt(unittest.TestCase):
    def test_the_next_keeping_has_the_number_of_the_failed_one(self):
        self.assertEqual(last_of(2, *made(1), keep(), fail(2, 1, 1), keep()), [[1, 1], [2, 4, 60]])
        self.assertEqual(last_of(2, *made(1), keep(), fail(3, 3), keep()), [[2, 1], [3, 4, 60]])

    def test_another_keeping_writes_where_the_failed_one_did(self):
        calls = [*made(1), keep(), *made(2), fail(2, 2, 3), *made(3, 4)]
        self.assertEqual(deeds_behind(*calls)[:2], [(4, [0, 3, 0, 4, 0]), (5, [0, 3, 2, 1, 2, 1, 0, 2, 4, 2, 0])])
        self.assertEqual(last_of(4, *calls, keep(), reopen(), find(), free()),
                         [[2, 5, 59], [2, 3], [3, 1, 3, 4], [59, 3, *range(6, 64)]])

    def test_another_failure_and_another(self):
        calls = [*made(1), keep(), *made(2), fail(2, 9, 9), *made(3), fail(4, 2), *made(4), fail(1, 1), find()]
        self.assertEqual(last_of(2, *calls), [[1, 1], [1, 1]])
        calls = [*made(1), keep(), *made(2), fail(2, 9, 9), *made(3), fail(4, 3), *made(4), fail(1, 1), find()]
        self.assertEqual(last_of(2, *calls), [[2, 2], [2, 1, 3]])
        calls = [*made(1), keep(), *made(2), fail(4, 1), *made(3), fail(5), *made(4), fail(6), find()]
        self.assertEqual(last_of(2, *calls), [[3, 3], [3, 1, 3, 4]])

    def test_an_opening_behind_a_failure_finds_the_same(self):
        for count in range(6):
            calls = [*made(1), keep(), *made(2), fail(count, 3)]
            answer = last(*calls)
            self.assertEqual(last_of(2, *calls, reopen(), reopen()), [answer, answer])

    def test_a_merge_is_found_as_it_was_or_as_it_is(self):
        calls = [put(1, 5), put(2, 6), make(), put(3, 7), make(), keep(), begin(2, 1), work(3, 9), drop(2), make(),
                 end(3)]
        for count in range(5):
            self.assertEqual(last_of(4, *calls, fail(count, 1, 2, 1), segments(), text(2), find()),
                             [[1, 3], [2, 1, 2, 2, 2, 1, 1], [1, 6], [3, 1, 2, 3]])
        self.assertEqual(last_of(4, *calls, fail(5), segments(), text(2), find()),
                         [[2, 2], [1, 3, 3, 2], [-3], [2, 1, 3]])


if __name__ == "__main__":
    unittest.main()
