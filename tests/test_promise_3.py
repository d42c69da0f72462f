"""Promise 3 and find: which texts are found by their words, and the words of a key's living text."""

import unittest

from tests.lines import (begin, drop, end, fail, find, keep, last, last_of, made, make, put, reopen, text, tidy,
                         told, work)

LARGEST = 4294967295
FOUR = [put(9, 1, 2), put(4, 2, 3, 2), put(30, 50), put(7), make()]


class Find(unittest.TestCase):
    def test_nothing_in_the_house(self):
        self.assertEqual(told(find(), find(1)), [[0], [0]])

    def test_no_words_asked(self):
        self.assertEqual(last(*FOUR, find()), [4, 4, 7, 9, 30])

    def test_one_word(self):
        self.assertEqual(last_of(4, *FOUR, find(1), find(2), find(3), find(50)), [[1, 9], [2, 4, 9], [1, 4], [1, 30]])

    def test_several_words_are_all_to_be_there(self):
        self.assertEqual(last_of(4, *FOUR, find(2, 3), find(3, 2), find(1, 3), find(1, 2, 50)),
                         [[1, 4], [1, 4], [0], [0]])

    def test_a_word_that_no_text_has(self):
        self.assertEqual(last_of(3, *FOUR, find(4), find(2, 4), find(4, 2)), [[0], [0], [0]])

    def test_a_word_asked_twice_is_to_be_there_once(self):
        self.assertEqual(last_of(3, *FOUR, find(1, 1), find(2, 3, 2, 3), find(*[2] * 400)), [[1, 9], [1, 4], [2, 4, 9]])

    def test_numbers_that_are_no_words(self):
        for number in (0, 51, LARGEST):
            self.assertEqual(last_of(2, *FOUR, find(number), find(2, number)), [[0], [0]])

    def test_keys_rise_over_all_segments(self):
        calls = [put(80, 5), put(20, 5), make(), put(100, 5), put(1, 5), make(), put(50, 5), make()]
        self.assertEqual(last(*calls, find(5)), [5, 1, 20, 50, 80, 100])

    def test_keys_rise_whatever_the_order_in_a_segment(self):
        calls = [put(80, 5), make(), put(20, 5), make(), begin(1, 2), work(3, 9), end(3)]
        self.assertEqual(last(*calls, find(5)), [2, 20, 80])

    def test_what_waits_is_not_found(self):
        self.assertEqual(last_of(4, *FOUR, put(10, 2), put(9), drop(4), find(2))[-1], [2, 4, 9])
        self.assertEqual(last(put(10, 2), find()), [0])

    def test_the_dropped_is_not_found(self):
        self.assertEqual(last_of(2, *FOUR, drop(9), make(), find(2), find()), [[1, 4], [3, 4, 7, 30]])

    def test_the_put_anew_is_found_by_its_new_words_once(self):
        calls = [*FOUR, put(9, 2, 50), make()]
        self.assertEqual(last_of(4, *calls, find(1), find(2), find(50), find()),
                         [[0], [2, 4, 9], [2, 9, 30], [4, 4, 7, 9, 30]])

    def test_the_carried_into_another_segment_is_found_once(self):
        calls = [*FOUR, put(8, 2), make(), begin(2, 1), work(3, 9)]
        self.assertEqual(last_of(3, *calls, find(2), end(3), find(2)), [[3, 4, 8, 9], [5, 5], [3, 4, 8, 9]])

    def test_what_died_behind_its_turn_in_a_merge_is_not_found(self):
        calls = [*FOUR, put(8, 2), make(), begin(2, 1), work(3, 9), drop(4), make(), end(3)]
        self.assertEqual(last_of(2, *calls, find(2), find()), [[2, 8, 9], [4, 7, 8, 9, 30]])


class Text(unittest.TestCase):
    def test_its_words_as_they_were_put(self):
        self.assertEqual(last_of(3, *FOUR, text(9), text(4), text(30)), [[2, 1, 2], [3, 2, 3, 2], [1, 50]])
        self.assertEqual(last(put(1, *range(50, 40, -1)), make(), text(1)), [10, *range(50, 40, -1)])

    def test_a_text_without_words(self):
        self.assertEqual(last(*FOUR, text(7)), [0])

    def test_the_edges_of_a_key(self):
        self.assertEqual(last_of(4, put(1, 3), put(100, 4), make(), text(0), text(1), text(100), text(101)),
                         [[-3], [1, 3], [1, 4], [-3]])

    def test_a_key_that_was_never_put(self):
        self.assertEqual(told(text(1), text(0), text(101), text(LARGEST)), [[-3]] * 4)
        self.assertEqual(last_of(2, *FOUR, text(5), text(LARGEST)), [[-3], [-3]])

    def test_a_text_that_waits(self):
        self.assertEqual(told(put(5, 6), text(5), make(), text(5)), [[1], [-3], [1], [1, 6]])

    def test_a_text_lives_while_its_end_waits(self):
        self.assertEqual(last_of(4, *FOUR, drop(9), text(9), put(9, 8), text(9)), [[1], [2, 1, 2], [1], [2, 1, 2]])

    def test_a_dropped_text(self):
        self.assertEqual(last_of(2, *FOUR, drop(9), make(), text(9), text(4)), [[-3], [3, 2, 3, 2]])

    def test_a_text_put_anew(self):
        self.assertEqual(last(*FOUR, put(9, 8), make(), text(9)), [1, 8])
        self.assertEqual(last(*FOUR, drop(9), make(), put(9), make(), text(9)), [0])

    def test_a_text_carried_by_a_merge(self):
        calls = [*FOUR, put(8, 2), make(), begin(2, 1), work(3, 9)]
        self.assertEqual(last_of(4, *calls, text(4), end(3), text(4), text(8)),
                         [[3, 2, 3, 2], [5, 5], [3, 2, 3, 2], [1, 2]])

    def test_a_text_put_anew_while_a_merge_carries_the_old_one(self):
        calls = [*FOUR, put(8, 2), make(), begin(2, 1), work(3, 9), put(4, 11, 12), make()]
        self.assertEqual(last_of(4, *calls, text(4), end(3), text(4), find(3)),
                         [[2, 11, 12], [5, 4], [2, 11, 12], [0]])

    def test_a_text_carried_by_tidy(self):
        calls = [call for key in (4, 3, 2, 1) for call in (put(key, key, 9), make())]
        self.assertEqual(last_of(3, *calls, tidy(), text(3), find(9)), [[1, 4], [2, 3, 9], [4, 1, 2, 3, 4]])

    def test_a_refusal_changes_nothing(self):
        self.assertEqual(last_of(3, *made(1), put(2), text(2), make(), text(2)), [[-3], [2], [0]])


class BehindAnOpening(unittest.TestCase):
    def test_what_was_kept_is_found_again(self):
        for opening in (reopen(), fail(0), fail(1, 2)):
            self.assertEqual(last_of(5, *FOUR, keep(), opening, find(2), find(), text(4), text(7), text(5)),
                             [[2, 4, 9], [4, 4, 7, 9, 30], [3, 2, 3, 2], [0], [-3]])

    def test_the_dead_are_not_found_again(self):
        calls = [*FOUR, drop(4), put(9, 3), make(), keep(), reopen()]
        self.assertEqual(last_of(5, *calls, find(2), find(3), find(), text(4), text(9)),
                         [[0], [1, 9], [3, 7, 9, 30], [-3], [1, 3]])

    def test_what_was_not_kept_is_lost(self):
        calls = [*FOUR, keep(), put(4, 6), put(5), drop(9), make(), reopen()]
        self.assertEqual(last_of(4, *calls, find(), text(4), text(5), text(9)),
                         [[4, 4, 7, 9, 30], [3, 2, 3, 2], [-3], [2, 1, 2]])


if __name__ == "__main__":
    unittest.main()
