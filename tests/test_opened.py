"""Opened: which root holds, what the house has then, and what is lost."""

import unittest

from foundagain.disk import holds
from tests.lines import (begin, block, deeds_behind, drop, end, fail, find, free, keep, last, last_of, made, make,
                         put, reopen, segments, text, tidy, told, work)


class NoRoot(unittest.TestCase):
    def test_a_new_disk(self):
        self.assertEqual(told(reopen(), segments(), free(), reopen()), [[0, 0], [0], [62, *range(2, 64)], [0, 0]])

    def test_a_house_that_never_was_kept(self):
        calls = [*made(1), *made(2), begin(1, 2), put(3), reopen()]
        self.assertEqual(last_of(7, *calls, segments(), work(3, 1), make(), put(5), make(), segments()),
                         [[0, 0], [0], [-2], [0], [1], [1], [1, 1, 1, 1]])

    def test_a_first_root_that_is_torn(self):
        calls = [*made(1), fail(4, 2)]
        self.assertEqual(last_of(5, *calls, block(1), reopen(), segments(), keep()),
                         [[0, 0], [2, 1, 3], [0, 0], [0], [1, 4, 61]])


class Roots(unittest.TestCase):
    def test_one(self):
        self.assertEqual(last_of(2, *made(1, 2), keep(), reopen(), segments()), [[1, 2], [1, 1, 2, 2]])

    def test_of_two_the_later(self):
        calls = [*made(1), keep(), *made(2, 3), keep(), reopen()]
        self.assertEqual(last_of(2, *calls, find()), [[2, 3], [3, 1, 2, 3]])
        self.assertEqual(last_of(3, *calls, *made(4), keep(), reopen(), find()), [[3, 6, 57], [3, 4], [4, 1, 2, 3, 4]])

    def test_one_that_holds_beside_one_that_does_not(self):
        # Torn is the root of the keeping 3, which is written over that of 1, and then that of 4, over that of 2.
        calls = [*made(1), keep(), *made(2), keep()]
        self.assertEqual(last_of(3, *calls, *made(3), fail(5, 1), reopen(), find()), [[2, 2], [2, 2], [2, 1, 2]])
        calls = [*calls, keep(), *made(4), fail(5, 2)]
        self.assertEqual(last_of(3, *calls, block(0), reopen(), find()), [[3, 4, 6, 133], [3, 2], [2, 1, 2]])

    def test_what_holds(self):
        self.assertTrue(holds(1, [1, 2, 66]))
        self.assertTrue(holds(0, [2, 63, 191]))
        self.assertTrue(holds(1, [4294967295, 0, 4294967295 * 64]))

    def test_what_does_not_hold(self):
        for place, row in ((1, []), (1, [1]), (1, [1, 2]), (1, [1, 2, 66, 0]), (1, [1, 2, 65]), (1, [1, 2, 67]),
                           (1, [3, 2, 66]), (1, [1, 64, 128]), (1, [1, 66, 130]), (0, [0, 0, 0]), (0, [0, 5, 5]),
                           (0, [1, 2, 66]), (1, [2, 2, 130])):
            self.assertFalse(holds(place, row), (place, row))


class Lost(unittest.TestCase):
    def test_what_waited(self):
        self.assertEqual(last_of(4, *made(1), keep(), put(2), drop(1), reopen(), make(), put(3), segments()),
                         [[1, 1], [1], [1], [1, 1, 1, 1]])

    def test_merges_on_their_way(self):
        calls = [*made(1), *made(2), begin(1, 2), work(3, 2), keep()]
        self.assertEqual(last_of(5, *calls, reopen(), work(3, 0), end(3), begin(1, 2), work(4, 0)),
                         [[1, 2], [-2], [-2], [4], [2]])

    def test_numbers_drawn_since(self):
        calls = [*made(1), keep(), *made(2), *made(3), begin(2, 3), reopen()]
        self.assertEqual(last_of(2, *calls, *made(4), segments()), [[2], [2, 1, 1, 1, 2, 1, 1]])

    def test_numbers_drawn_until_then_are_not(self):
        calls = [*made(1), *made(2), begin(1, 2), work(3, 9), end(3), begin(3, 9), keep(), reopen()]
        self.assertEqual(last(*calls, *made(4), segments()), [2, 3, 2, 2, 4, 1, 1])
        calls = [*made(1), *made(2), begin(1, 2), keep(), reopen()]
        self.assertEqual(last(*calls, *made(4), segments()), [3, 1, 1, 1, 2, 1, 1, 4, 1, 1])
        calls = [*made(1), *made(2), drop(1), drop(2), make(), begin(1, 2), work(3, 9), end(3), keep(), reopen()]
        self.assertEqual(last_of(3, *calls, segments(), make(), tidy()), [[0], [0], [0, 0]])
        self.assertEqual(last(*calls, *made(4), segments()), [1, 4, 1, 1])

    def test_texts_that_were_made_and_merged_since(self):
        calls = [*made(1, 2), *made(3), keep(), drop(1), *made(4), begin(2, 1), work(4, 9), end(4), reopen()]
        self.assertEqual(last_of(3, *calls, segments(), find()), [[1, 3], [2, 1, 2, 2, 2, 1, 1], [3, 1, 2, 3]])

    def test_a_number_that_is_drawn_anew_has_a_file_of_its_own(self):
        calls = [*made(1), keep(), put(2, 5), make(), fail(4, 0), put(3, 6), make()]
        self.assertEqual(deeds_behind(*calls)[0], (4, [0, 3, 1, 6]))
        self.assertEqual(last_of(4, *calls, keep(), reopen(), text(2), text(3)), [[2, 5, 59], [2, 2], [-3], [1, 6]])


class Found(unittest.TestCase):
    def test_again_and_whole(self):
        words = {1: [], 2: [50], 50: [3, 3, 3], 100: list(range(1, 11))}
        calls = [*[put(key, *words[key]) for key in words], make(), keep(), reopen()]
        for key in words:
            self.assertEqual(last(*calls, text(key)), [len(words[key]), *words[key]])
        self.assertEqual(last_of(2, *calls, find(), segments()), [[4, 1, 2, 50, 100], [1, 1, 4, 4]])

    def test_the_dead_still_dead(self):
        calls = [*made(1, 2, 3), *made(4), drop(2), make(), *made(3), keep(), reopen()]
        self.assertEqual(last_of(4, *calls, segments(), find(), text(2)),
                         [[1, 3], [3, 1, 3, 1, 2, 1, 1, 3, 1, 1], [3, 1, 3, 4], [-3]])
        # The dead aren't copied, and what is put anew kills what lives and no more.
        self.assertEqual(last_of(3, *calls, begin(1, 3), work(4, 9), end(4)), [[4], [0], [2, 2]])
        self.assertEqual(last_of(2, *calls, *made(2), segments()),
                         [[4], [4, 1, 3, 1, 2, 1, 1, 3, 1, 1, 4, 1, 1]])

    def test_the_row_in_its_order(self):
        calls = [*made(1), *made(2), *made(3), begin(3, 1), work(4, 9), end(4), *made(5), keep(), reopen(), segments()]
        self.assertEqual(last(*calls), [3, 4, 2, 2, 2, 1, 1, 5, 1, 1])

    def test_texts_in_their_order(self):
        calls = [*made(1, 2), *made(3), begin(2, 1), work(3, 9), end(3), keep(), reopen(), *made(4), begin(3, 4)]
        for passed, dropped, copied in ((1, 3, 4), (0, 3, 3), (2, 1, 4), (1, 1, 3), (3, 2, 4), (2, 2, 3)):
            answered = last(*calls, work(5, passed), drop(dropped), make(), work(5, 9), end(5))
            self.assertEqual(answered, [copied, 3], (passed, dropped))

    def test_it_goes_on_as_a_house(self):
        calls = [*made(1), *made(2), *made(3), keep(), reopen(), *made(4), tidy(), put(2, 7), make(), segments()]
        self.assertEqual(last_of(4, *calls), [[1, 4], [1], [4], [2, 5, 4, 3, 6, 1, 1]])


class GoingOn(unittest.TestCase):
    def test_keepings_go_on_by_their_numbers(self):
        self.assertEqual(told(keep(), keep(), reopen(), keep(), reopen(), reopen(), keep(), reopen()),
                         [[1, 4, 61], [2, 4, 61], [2, 0], [3, 4, 61], [3, 0], [3, 0], [4, 4, 61], [4, 0]])

    def test_files_stay_where_they_are(self):
        calls = [*made(1), *made(2), keep(), reopen(), drop(1), make()]
        self.assertEqual(deeds_behind(*calls),
                         [(5, [0, 3, 2, 1, 2, 1, 1, 0, 2, 3, 1, 0]), None, (0, [2, 5, 133]), None])
        self.assertEqual(last_of(3, *calls, free(), keep(), free()),
                         [[59, *range(5, 64)], [2, 4, 59], [59, 4, *range(6, 64)]])

    def test_what_is_free_is_the_same_behind_an_opening(self):
        calls = [*made(1), *made(2), keep(), *made(3), keep(), begin(1, 3), work(4, 9), end(4), keep(), keep()]
        for count in range(4, len(calls) + 1):
            self.assertEqual(last(*calls[:count], reopen(), free()), last(*calls[:count], free()))

    def test_files_of_a_house_that_was_opened_go_when_its_segments_do(self):
        calls = [*made(1), *made(2), keep(), reopen(), begin(1, 2), work(3, 9), end(3), keep()]
        self.assertEqual(last_of(2, *calls, free()), [[2, 5, 60], [60, 2, 3, 4, *range(7, 64)]])


if __name__ == "__main__":
    unittest.main()
