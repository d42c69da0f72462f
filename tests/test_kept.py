"""What's kept and where: rows in blocks, files, the list, the roots, and which blocks are free."""

import unittest

from tests.lines import (begin, blocks_behind, deeds_behind, drop, end, find, free, keep, last, last_of, made, make,
                         put, reopen, segments, text, tidy, told, work)

NINE = list(range(21, 30))
TEN = list(range(31, 41))
# A text takes two numbers more than it has words: these are eleven and twelve.
ELEVEN = [put(5, *NINE), make()]
TWELVE = [put(5, *TEN), make()]


def holes():
    """Calls behind which the free blocks are 2, 3, 4 and those from 9 on."""
    return [put(1, *NINE), make(), put(2, *NINE), make(), keep(), begin(1, 2), work(3, 9), end(3), *made(9), keep()]


class Keeping(unittest.TestCase):
    def test_a_house_with_no_segment(self):
        self.assertEqual(told(keep(), free()), [[1, 4, 61], [61, *range(3, 64)]])
        self.assertEqual(blocks_behind(keep()), {1: [1, 2, 66], 2: [0, 1, 0]})
        self.assertEqual(told(keep(), reopen(), segments(), *made(4), segments())[1:],
                         [[1, 0], [0], [1], [1], [1, 1, 1, 1]])

    def test_keepings_are_numbered_and_take_turns_at_the_roots(self):
        self.assertEqual(told(keep(), keep(), keep(), keep()), [[1, 4, 61], [2, 4, 61], [3, 4, 61], [4, 4, 61]])
        self.assertEqual(blocks_behind(keep(), keep()), {0: [2, 3, 131], 1: [1, 2, 66], 2: [0, 1, 0], 3: [0, 1, 0]})
        rows = blocks_behind(keep(), keep(), keep())
        self.assertEqual((rows[0], rows[1]), ([2, 3, 131], [3, 2, 194]))
        rows = blocks_behind(keep(), keep(), keep(), keep())
        self.assertEqual((rows[0], rows[1]), ([4, 3, 259], [3, 2, 194]))

    def test_a_file_and_a_list(self):
        calls = [put(5, 9, 9), put(3), put(4, 50), make(), keep()]
        self.assertEqual(last_of(2, *calls, free()), [[1, 5, 60], [60, *range(4, 64)]])
        self.assertEqual(blocks_behind(*calls),
                         {1: [1, 3, 67], 2: [0, 3, 0, 4, 1, 50, 5, 2, 9, 9], 3: [0, 2, 1, 1, 2, 3, 0]})

    def test_each_segment_has_a_file_in_the_order_of_the_row(self):
        calls = [*made(1), *made(2), *made(3), begin(3, 2), work(4, 9), end(4), *made(7), keep()]
        self.assertEqual(blocks_behind(*calls),
                         {1: [1, 5, 69], 2: [0, 1, 0], 3: [0, 3, 0, 2, 0], 4: [0, 7, 0],
                          5: [6, 6, 3, 1, 2, 1, 0, 4, 3, 2, 0, 5], 6: [0, 4, 1, 0]})

    def test_a_keeping_with_nothing_new(self):
        calls = [*made(5), keep()]
        self.assertEqual(last_of(4, *calls, keep(), free(), keep(), free()),
                         [[2, 4, 60], [60, 3, *range(5, 64)], [3, 4, 60], [60, *range(4, 64)]])
        self.assertEqual(blocks_behind(*calls, keep()),
                         {0: [2, 4, 132], 1: [1, 3, 67], 2: [0, 5, 0], 3: [0, 2, 1, 1, 2, 1, 0],
                          4: [0, 2, 1, 1, 2, 1, 0]})

    def test_what_waits_and_what_merges_copied_is_not_kept(self):
        calls = [*made(1), *made(2), begin(2, 1), work(3, 2), put(8), drop(1), keep()]
        self.assertEqual(blocks_behind(*calls), {1: [1, 4, 68], 2: [0, 1, 0], 3: [0, 2, 0],
                                                 4: [0, 4, 2, 1, 2, 1, 0, 2, 3, 1, 0]})

    def test_a_keeping_changes_nothing_of_what_waits_or_of_merges(self):
        calls = [*made(1), *made(2), begin(2, 1), work(3, 1), put(8), keep()]
        self.assertEqual(last_of(6, *calls, drop(9), work(3, 1), end(3), segments(), make(), find()),
                         [[2], [0], [2, 2], [1, 3, 2, 2], [3], [3, 1, 2, 8]])

    def test_the_next_number_is_kept_as_merges_drew_it(self):
        calls = [*made(1), *made(2), begin(1, 2), begin(1, 9), keep()]
        self.assertEqual(blocks_behind(*calls)[4][:3], [0, 4, 2])


class RowsInBlocks(unittest.TestCase):
    def test_a_file_of_just_eleven_numbers(self):
        self.assertEqual(blocks_behind(*ELEVEN, keep()),
                         {1: [1, 3, 67], 2: [0, 5, 9, *NINE], 3: [0, 2, 1, 1, 2, 1, 0]})

    def test_a_file_of_twelve(self):
        self.assertEqual(blocks_behind(*TWELVE, keep()),
                         {1: [1, 4, 68], 2: [3, 5, 10, *TEN[:9]], 3: [0, 40], 4: [0, 2, 1, 1, 2, 1, 0]})

    def test_a_file_of_twenty_two(self):
        rows = blocks_behind(put(5, *NINE), *[put(6, *NINE), make()], keep())
        self.assertEqual(rows, {1: [1, 4, 68], 2: [3, 5, 9, *NINE], 3: [0, 6, 9, *NINE], 4: [0, 2, 1, 1, 2, 2, 0]})

    def test_a_file_of_twenty_three(self):
        rows = blocks_behind(put(5, *NINE), *[put(6, *TEN), make()], keep())
        self.assertEqual(rows, {1: [1, 5, 69], 2: [3, 5, 9, *NINE], 3: [4, 6, 10, *TEN[:9]], 4: [0, 40],
                                5: [0, 2, 1, 1, 2, 2, 0]})

    def test_all_of_them_are_read_again(self):
        for words, others in ((NINE, None), (TEN, None), (NINE, NINE), (NINE, TEN), (TEN, TEN)):
            calls = [put(5, *words)] + ([put(6, *others)] if others else []) + [make(), keep(), reopen()]
            self.assertEqual(last(*calls, text(5)), [len(words), *words])
            self.assertEqual(last(*calls, text(6)), [len(others), *others] if others else [-3])

    def test_a_list_of_just_eleven_numbers(self):
        # Two segments and one dead text.
        calls = [*made(1, 2), *made(3), drop(2), make(), keep()]
        self.assertEqual(last(*calls), [1, 6, 59])
        self.assertEqual(blocks_behind(*calls)[4], [0, 3, 2, 1, 2, 2, 1, 1, 2, 3, 1, 0])
        self.assertEqual(last_of(3, *calls, reopen(), segments(), find()), [[1, 2], [2, 1, 2, 1, 2, 1, 1], [2, 1, 3]])

    def test_a_list_of_twelve(self):
        calls = [*made(1, 2), *made(3), drop(2), drop(3), make(), keep()]
        rows = blocks_behind(*calls)
        self.assertEqual(last(*calls), [1, 7, 58])
        self.assertEqual((rows[1], rows[4], rows[5]), ([1, 4, 68], [5, 3, 2, 1, 2, 2, 1, 1, 2, 3, 1, 1], [0, 0]))
        self.assertEqual(last_of(3, *calls, reopen(), segments(), find()), [[1, 1], [2, 1, 2, 1, 2, 1, 0], [1, 1]])

    def test_a_list_of_twenty_two_and_of_twenty_three(self):
        five = [call for key in range(1, 6) for call in made(key)]
        rows = blocks_behind(*five, keep())
        self.assertEqual(rows[7], [8, 6, 5, 1, 2, 1, 0, 2, 3, 1, 0, 3])
        self.assertEqual(rows[8], [0, 4, 1, 0, 4, 5, 1, 0, 5, 6, 1, 0])
        self.assertEqual(last_of(2, *five, keep(), free()), [[1, 10, 55], [55, *range(9, 64)]])
        calls = [*five, drop(5), make(), keep()]
        rows = blocks_behind(*calls)
        self.assertEqual((rows[8], rows[9]), ([9, 4, 1, 0, 4, 5, 1, 0, 5, 6, 1, 1], [0, 0]))
        self.assertEqual(last_of(2, *calls, reopen(), find()), [[1, 4], [4, 1, 2, 3, 4]])


class TheDead(unittest.TestCase):
    def test_the_list_tells_at_which_places_they_stand(self):
        calls = [*made(11, 12, 13, 14), drop(14), drop(11), put(12), make(), keep()]
        self.assertEqual(blocks_behind(*calls), {1: [1, 4, 68], 2: [0, 11, 0, 12, 0, 13, 0, 14, 0], 3: [0, 12, 0],
                                                 4: [5, 3, 2, 1, 2, 4, 3, 0, 1, 3, 2, 3], 5: [0, 1, 0]})

    def test_the_places_are_those_of_the_segment_and_not_of_the_keys(self):
        calls = [*made(1), *made(2), *made(3), begin(3, 1), work(4, 9), end(4), drop(3), make(), keep()]
        rows = blocks_behind(*calls)
        self.assertEqual((rows[2], rows[4]), ([0, 3, 0, 1, 0], [0, 5, 2, 4, 2, 2, 1, 0, 2, 3, 1, 0]))
        self.assertEqual(last_of(2, *calls, reopen(), find()), [[1, 2], [2, 1, 2]])

    def test_a_file_stays_where_it_is_while_its_texts_die(self):
        calls = [*made(1, 2, 3), keep(), drop(2), make(), keep()]
        self.assertEqual(blocks_behind(*calls), {0: [2, 4, 132], 1: [1, 3, 67], 2: [0, 1, 0, 2, 0, 3, 0],
                                                 3: [0, 2, 1, 1, 2, 3, 0], 4: [0, 2, 1, 1, 2, 3, 1, 1]})
        calls = [*calls, drop(3), make(), keep()]
        self.assertEqual(blocks_behind(*calls), {0: [2, 4, 132], 1: [3, 3, 195], 2: [0, 1, 0, 2, 0, 3, 0],
                                                 3: [0, 2, 1, 1, 2, 3, 2, 1, 2], 4: [0, 2, 1, 1, 2, 3, 1, 1]})
        self.assertEqual(last_of(2, *calls, reopen(), find()), [[3, 1], [1, 1]])

    def test_a_segment_of_which_nothing_lives_is_kept(self):
        dying = [drop(1), drop(2), make(), keep(), reopen(), segments()]
        self.assertEqual(last_of(2, *made(1, 2), *dying), [[1, 0], [1, 1, 2, 0]])
        self.assertEqual(last_of(2, *made(1, 2), keep(), *dying), [[2, 0], [1, 1, 2, 0]])

    def test_what_a_merge_copied_and_died_since_is_in_its_file(self):
        calls = [*made(1, 2), *made(3), begin(1, 2), work(3, 9), drop(2), make(), end(3), keep()]
        self.assertEqual(blocks_behind(*calls), {1: [1, 3, 67], 2: [0, 1, 0, 2, 0, 3, 0], 3: [0, 4, 1, 3, 2, 3, 1, 1]})
        self.assertEqual(last_of(3, *calls, reopen(), segments(), find()), [[1, 2], [1, 3, 3, 2], [2, 1, 3]])


class Free(unittest.TestCase):
    def test_at_the_beginning(self):
        self.assertEqual(told(free()), [[62, *range(2, 64)]])

    def test_it_tells_of_what_was_kept_and_not_of_the_house(self):
        self.assertEqual(last(*made(1), free()), [62, *range(2, 64)])
        self.assertEqual(last(*made(1), keep(), *made(2), free()), [60, *range(4, 64)])

    def test_the_list_kept_last_is_free_behind_the_keeping_and_not_ahead(self):
        self.assertEqual(last_of(4, keep(), free(), keep(), free()),
                         [[1, 4, 61], [61, *range(3, 64)], [2, 4, 61], [61, 2, *range(4, 64)]])

    def test_files_of_segments_that_went_are_free_behind_the_keeping_and_not_ahead(self):
        calls = [*made(1), *made(2), keep(), begin(1, 2), work(3, 9), end(3)]
        self.assertEqual(last_of(3, *calls, free(), keep(), free()),
                         [[59, *range(5, 64)], [2, 5, 60], [60, 2, 3, 4, *range(7, 64)]])
        rows = blocks_behind(*calls, keep())
        self.assertEqual(rows, {0: [2, 6, 134], 1: [1, 4, 68], 2: [0, 1, 0], 3: [0, 2, 0],
                                4: [0, 3, 2, 1, 2, 1, 0, 2, 3, 1, 0], 5: [0, 1, 0, 2, 0], 6: [0, 4, 1, 3, 5, 2, 0]})

    def test_files_of_segments_that_a_merge_left_nothing_of(self):
        calls = [*made(1), *made(2), keep(), drop(1), drop(2), make(), begin(2, 1), work(3, 9), end(3)]
        self.assertEqual(last_of(3, *calls, free(), keep(), free()),
                         [[59, *range(5, 64)], [2, 4, 61], [61, 2, 3, 4, *range(6, 64)]])

    def test_files_of_segments_in_a_merge_stay(self):
        calls = [*made(1), *made(2), keep(), begin(1, 2), work(3, 9), keep(), free()]
        self.assertEqual(last_of(2, *calls), [[2, 4, 59], [59, 4, *range(6, 64)]])

    def test_files_that_tidy_made_anew(self):
        calls = [*made(1), *made(2), *made(3), *made(4), keep(), tidy(), keep()]
        self.assertEqual(last_of(2, *calls, free()), [[2, 5, 60], [60, *range(2, 8), *range(10, 64)]])


class LowestFree(unittest.TestCase):
    def test_gaps_are_filled_from_the_lowest_on(self):
        calls = holes()
        self.assertEqual(last(*calls, free()), [58, 2, 3, 4, *range(9, 64)])
        todo = deeds_behind(*calls, put(10, *NINE), put(11, *TEN), put(12, *TEN), make())
        self.assertEqual([deed[0] for deed in todo if deed], [2, 3, 4, 9, 10, 11, 1])

    def test_a_file_goes_across_a_gap(self):
        calls = [*holes(), put(10, *TEN), put(11, *TEN), put(12, *TEN), make(), keep()]
        rows = blocks_behind(*calls)
        self.assertEqual([rows[number][0] for number in (2, 3, 4, 9)], [3, 4, 9, 0])
        self.assertEqual(last_of(4, *calls, reopen(), text(10), text(11), text(12)),
                         [[3, 6], [10, *TEN], [10, *TEN], [10, *TEN]])

    def test_files_come_ahead_of_the_list(self):
        calls = [*made(1), keep(), keep(), *made(2)]
        # The list stands in 4 now, and 3 is free.
        self.assertEqual([deed and deed[0] for deed in deeds_behind(*calls)], [3, 5, None, 1, None])

    def test_the_list_goes_across_a_gap(self):
        calls = [*made(*range(1, 11)), keep(), keep(), *[drop(key) for key in range(1, 11)], make(), keep()]
        self.assertEqual(last_of(2, *calls, free()), [[3, 5, 58], [58, 5, *range(7, 64)]])
        rows = blocks_behind(*calls)
        self.assertEqual((rows[4], rows[6]), ([6, 2, 1, 1, 2, 10, 10, 0, 1, 2, 3, 4], [0, 5, 6, 7, 8, 9]))


if __name__ == "__main__":
    unittest.main()
