"""What stands ahead of the promises: made, the dead, the row of numbers, and segments."""

import unittest

from tests.lines import begin, drop, end, last, made, make, order_of, put, segments, told, work


class Made(unittest.TestCase):
    def test_a_new_house_has_nothing(self):
        self.assertEqual(told(segments(), make(), segments()), [[0], [0], [0]])

    def test_what_waits_is_made_a_segment_behind_the_others(self):
        self.assertEqual(told(put(5, 1), put(2, 3), make(), segments(), put(9), make(), segments()),
                         [[1], [2], [2], [1, 1, 2, 2], [1], [3], [2, 1, 2, 2, 2, 1, 1]])

    def test_nothing_waits_behind_it(self):
        self.assertEqual(told(put(5), make(), make(), put(6)), [[1], [1], [1], [1]])
        self.assertEqual(last(put(5), make(), make(), segments()), [1, 1, 1, 1])

    def test_drops_alone_make_no_segment_and_draw_no_number(self):
        self.assertEqual(told(drop(1), make(), segments(), put(1), make(), segments()),
                         [[1], [0], [0], [1], [1], [1, 1, 1, 1]])

    def test_a_text_dies_by_a_drop(self):
        self.assertEqual(told(*made(1, 2, 3), drop(2), drop(50), make(), segments())[4:],
                         [[1], [2], [2], [1, 1, 3, 2]])

    def test_a_text_dies_by_a_put_of_its_key(self):
        self.assertEqual(told(*made(1, 2, 3), *made(2), segments())[-2:], [[3], [2, 1, 3, 2, 2, 1, 1]])

    def test_texts_die_in_all_segments(self):
        calls = [*made(1, 2), *made(3, 4), *made(5), drop(1), drop(3), drop(5), make(), segments()]
        self.assertEqual(told(*calls)[-2:], [[2], [3, 1, 2, 1, 2, 2, 1, 3, 1, 0]])

    def test_the_dead_stay_dead(self):
        self.assertEqual(last(*made(1), drop(1), make(), *made(1), segments()), [2, 1, 1, 0, 2, 1, 1])

    def test_nothing_dies_before_it_is_made(self):
        self.assertEqual(last(*made(1, 2), drop(1), put(2), segments()), [1, 1, 2, 2])

    def test_a_segment_may_have_many_texts(self):
        self.assertEqual(last(*made(*range(43, 101)), segments()), [1, 1, 58, 58])


class Order(unittest.TestCase):
    def test_texts_are_made_in_the_order_of_their_keys(self):
        calls = [*made(9, 4, 100, 7), *made(50)]
        self.assertEqual(order_of(calls, (1, 2), 3, [100, 50, 9, 7, 4]), [4, 7, 9, 100, 50])

    def test_a_key_put_again_stands_at_its_own_place(self):
        calls = [put(3), put(8), put(1), put(8, 5), drop(2), make(), *made(2)]
        self.assertEqual(order_of(calls, (1, 2), 3, [1, 2, 3, 8]), [1, 3, 8, 2])


class Numbers(unittest.TestCase):
    def test_segments_and_merges_draw_from_one_row(self):
        calls = [*made(1), *made(2), begin(2, 1), *made(3), *made(4), begin(4, 5), *made(6), segments()]
        answered = told(*calls)
        self.assertEqual(answered[4], [3])
        self.assertEqual(answered[9], [6])
        self.assertEqual(answered[-1], [5, 1, 1, 1, 2, 1, 1, 4, 1, 1, 5, 1, 1, 7, 1, 1])

    def test_a_refused_merge_draws_no_number(self):
        self.assertEqual(last(*made(1), begin(1), begin(1, 9), *made(2), segments()), [2, 1, 1, 1, 2, 1, 1])

    def test_a_merge_of_the_dead_has_drawn_its_number(self):
        calls = [*made(1), *made(2), drop(1), drop(2), make(), begin(1, 2), work(3, 2), end(3), *made(5), segments()]
        self.assertEqual(last(*calls), [1, 4, 1, 1])


if __name__ == "__main__":
    unittest.main()
