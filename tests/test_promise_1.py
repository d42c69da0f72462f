"""Promise 1 and what stands ahead of it: put, drop, and what waits."""

import unittest

from tests.lines import drop, last, make, put, segments, told

LARGEST = 4294967295


class Puts(unittest.TestCase):
    def test_puts_are_counted_by_key(self):
        self.assertEqual(told(put(7, 1, 2), put(3, 50), put(9)), [[1], [2], [3]])

    def test_a_later_put_takes_the_place_of_an_earlier(self):
        self.assertEqual(told(put(7, 1), put(7, 2), put(8), put(7)), [[1], [1], [2], [2]])

    def test_the_edges_of_a_key(self):
        self.assertEqual(told(put(0), put(1), put(100), put(101), put(LARGEST)), [[-1], [1], [2], [-1], [-1]])

    def test_the_edges_of_a_word(self):
        self.assertEqual(told(put(1, 0), put(1, 1), put(2, 50), put(3, 51), put(3, LARGEST)),
                         [[-1], [1], [2], [-1], [-1]])

    def test_a_wrong_word_among_right_ones(self):
        for words in ((0, 1, 2), (1, 51, 2), (1, 2, 0)):
            self.assertEqual(told(put(1, *words)), [[-1]])

    def test_how_many_words(self):
        self.assertEqual(told(put(1), put(2, *range(1, 11)), put(3, *range(1, 12)), put(3, *[9] * 400)),
                         [[1], [2], [-1], [-1]])

    def test_a_word_may_come_more_than_once(self):
        self.assertEqual(told(put(1, 5, 5, 5, 5, 5, 5, 5, 5, 5, 5)), [[1]])


class Drops(unittest.TestCase):
    def test_drops_are_counted_by_key(self):
        self.assertEqual(told(drop(7), drop(3), drop(7)), [[1], [2], [2]])

    def test_the_edges_of_a_key(self):
        self.assertEqual(told(drop(0), drop(1), drop(100), drop(101), drop(LARGEST)), [[-1], [1], [2], [-1], [-1]])

    def test_a_drop_takes_the_place_of_a_put(self):
        self.assertEqual(told(put(4), put(5), drop(4), make(), segments()), [[1], [2], [2], [1], [1, 1, 1, 1]])

    def test_a_put_takes_the_place_of_a_drop(self):
        self.assertEqual(told(drop(4), put(4), make(), segments()), [[1], [1], [1], [1, 1, 1, 1]])


class Refusals(unittest.TestCase):
    def test_a_refusal_changes_nothing(self):
        for refused in (put(0), put(101), put(8, 51), put(8, 0), put(8, *[1] * 11), drop(0), drop(101)):
            self.assertEqual(told(put(7), refused, drop(8), make(), segments()),
                             [[1], [-1], [2], [1], [1, 1, 1, 1]])

    def test_a_refused_put_leaves_what_waits_of_its_key(self):
        self.assertEqual(told(drop(7), put(7, 51), make()), [[1], [-1], [0]])
        self.assertEqual(told(put(7), put(7, *[1] * 11), make()), [[1], [-1], [1]])

    def test_a_refused_call_makes_nothing_of_its_key(self):
        self.assertEqual(last(put(101), make(), segments()), [0])


if __name__ == "__main__":
    unittest.main()
