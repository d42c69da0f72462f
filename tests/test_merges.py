"""What stands ahead of the promises: merges, their order and place, and texts that die on the way."""

import unittest

from tests.lines import begin, drop, end, last, made, make, order_of, put, segments, told, work

THREE = [*made(1, 2), *made(3, 4), *made(5)]


class Merges(unittest.TestCase):
    def test_a_merge_copies_all_that_lives(self):
        self.assertEqual(told(*THREE, begin(1, 2, 3), work(4, 5), end(4), segments())[-4:],
                         [[4], [0], [5, 5], [1, 4, 5, 5]])

    def test_the_segments_stay_until_the_end(self):
        row = [3, 1, 2, 2, 2, 2, 2, 3, 1, 1]
        self.assertEqual(told(*THREE, begin(1, 2), segments(), work(4, 9), segments(), make())[-4:],
                         [row, [0], row, [5]])

    def test_the_dead_are_left_behind(self):
        self.assertEqual(told(*THREE, drop(1), drop(4), make(), begin(1, 2), work(4, 9), end(4), segments())[-2:],
                         [[2, 2], [2, 4, 2, 2, 3, 1, 1]])

    def test_an_end_changes_nothing_of_what_lives(self):
        self.assertEqual(last(*THREE, drop(2), make(), begin(3, 1), work(4, 9), end(4), make()), [4])

    def test_merges_side_by_side(self):
        calls = [*THREE, *made(6), begin(1, 4), begin(2, 3), work(5, 1), work(6, 2), work(5, 9), work(6, 9)]
        self.assertEqual(told(*calls, end(6), end(5), segments())[-9:],
                         [[5], [6], [2], [1], [0], [0], [3, 3], [3, 3], [2, 5, 3, 3, 6, 3, 3]])

    def test_a_merge_of_a_merge(self):
        calls = [*THREE, begin(1, 2), work(4, 9), end(4), begin(3, 4), work(5, 9), end(5), segments()]
        self.assertEqual(told(*calls)[-2:], [[5, 5], [1, 5, 5, 5]])


class Order(unittest.TestCase):
    def test_a_merge_goes_in_the_order_told(self):
        self.assertEqual(order_of(THREE, (1, 2, 3), 4, [1, 2, 3, 4, 5]), [1, 2, 3, 4, 5])
        self.assertEqual(order_of(THREE, (3, 1, 2), 4, [1, 2, 3, 4, 5]), [5, 1, 2, 3, 4])
        self.assertEqual(order_of(THREE, (2, 1), 4, [1, 2, 3, 4]), [3, 4, 1, 2])

    def test_what_is_copied_keeps_that_order(self):
        calls = [*THREE, begin(3, 1), work(4, 9), end(4)]
        self.assertEqual(order_of(calls, (4, 2), 5, [1, 2, 3, 4, 5]), [5, 1, 2, 3, 4])
        self.assertEqual(order_of(calls, (2, 4), 5, [1, 2, 3, 4, 5]), [3, 4, 5, 1, 2])

    def test_work_in_parts_copies_the_same_order(self):
        for part in (1, 2, 3):
            calls = [*THREE, begin(3, 2, 1), *[work(4, part)] * 5, end(4), *made(6)]
            self.assertEqual(order_of(calls, (4, 5), 6, [1, 2, 3, 4, 5, 6]), [5, 3, 4, 1, 2, 6])


class Place(unittest.TestCase):
    def test_the_segment_takes_the_place_of_the_first_in_the_row(self):
        calls = [*made(1), *made(2), *made(3), *made(4)]
        for numbers, row in (((1, 2), [3, 5, 2, 2, 3, 1, 1, 4, 1, 1]),
                             ((2, 4), [3, 1, 1, 1, 5, 2, 2, 3, 1, 1]),
                             ((4, 2), [3, 1, 1, 1, 5, 2, 2, 3, 1, 1]),
                             ((4, 3), [3, 1, 1, 1, 2, 1, 1, 5, 2, 2]),
                             ((3, 4, 1), [2, 5, 3, 3, 2, 1, 1])):
            self.assertEqual(last(*calls, begin(*numbers), work(5, 9), end(5), segments()), row)

    def test_the_row_as_it_is_at_the_end(self):
        calls = [*made(1), *made(2), *made(3), *made(4), begin(4, 3), begin(2, 1), *made(7)]
        self.assertEqual(last(*calls, work(6, 9), end(6), work(5, 9), end(5), segments()),
                         [3, 6, 2, 2, 5, 2, 2, 7, 1, 1])

    def test_the_place_is_that_of_the_row_and_not_that_of_the_numbers(self):
        calls = [*made(1), *made(2), *made(3), begin(1, 3), work(4, 9), end(4), begin(2, 4), work(5, 9), end(5)]
        self.assertEqual(last(*calls[:-3], segments()), [2, 4, 2, 2, 2, 1, 1])
        self.assertEqual(last(*calls, *made(9), segments()), [2, 5, 3, 3, 6, 1, 1])
        calls = [*made(1), *made(2), *made(3), *made(4), begin(1, 4), work(5, 9), end(5), begin(3, 5), work(6, 9)]
        self.assertEqual(last(*calls, end(6), segments()), [2, 6, 3, 3, 2, 1, 1])


class Dying(unittest.TestCase):
    def test_ahead_of_its_turn_a_text_is_not_copied(self):
        self.assertEqual(told(*THREE, begin(1, 2), work(4, 1), drop(2), make(), work(4, 9), end(4), segments())[-2:],
                         [[3, 3], [2, 4, 3, 3, 3, 1, 1]])

    def test_behind_its_turn_it_is_copied_and_dead(self):
        self.assertEqual(told(*THREE, begin(1, 2), work(4, 2), drop(2), make(), work(4, 9), end(4), segments())[-2:],
                         [[4, 3], [2, 4, 4, 3, 3, 1, 1]])

    def test_when_all_are_gone_through(self):
        self.assertEqual(told(*THREE, begin(1, 2), work(4, 9), drop(2), drop(3), make(), end(4), segments())[-3:],
                         [[3], [4, 2], [2, 4, 4, 2, 3, 1, 1]])

    def test_a_later_put_of_its_key_kills_it_too(self):
        calls = [*THREE, begin(1, 2), work(4, 1), *made(1, 2), work(4, 9), end(4), segments()]
        self.assertEqual(told(*calls)[-2:], [[3, 2], [3, 4, 3, 2, 3, 1, 1, 5, 2, 2]])

    def test_what_only_waits_kills_nothing(self):
        self.assertEqual(told(*THREE, drop(1), begin(1, 2), put(2), work(4, 9), end(4))[-1], [4, 4])

    def test_the_dead_among_the_copied_stay_dead_and_are_gone_through(self):
        calls = [*THREE, begin(1, 2), work(4, 9), drop(1), make(), end(4), begin(4, 3)]
        self.assertEqual(told(*calls, work(5, 0), work(5, 9), end(5), segments())[-4:],
                         [[5], [0], [4, 4], [1, 5, 4, 4]])

    def test_what_was_copied_dies_when_the_merge_is_over(self):
        self.assertEqual(told(*THREE, begin(1, 2), work(4, 9), end(4), drop(3), make(), segments())[-2:],
                         [[4], [2, 4, 4, 3, 3, 1, 1]])

    def test_the_first_segments_row_is_told_while_texts_die(self):
        self.assertEqual(told(*THREE, begin(1, 2), work(4, 9), drop(1), make(), segments())[-2:],
                         [[4], [3, 1, 2, 1, 2, 2, 2, 3, 1, 1]])

    def test_a_text_made_between_is_not_in_the_merge(self):
        self.assertEqual(told(*THREE, begin(1, 2), *made(6), work(4, 99), end(4), segments())[-3:],
                         [[0], [4, 4], [3, 4, 4, 4, 3, 1, 1, 5, 1, 1]])


class NothingLives(unittest.TestCase):
    def test_at_the_beginning(self):
        calls = [*made(1), *made(2), *made(3), drop(1), drop(3), make(), begin(3, 1), work(4, 2), end(4), segments()]
        self.assertEqual(told(*calls)[-4:], [[4], [0], [0, 0], [1, 2, 1, 1]])

    def test_at_the_end_of_what_was_copied(self):
        calls = [*made(1), *made(2), *made(3), begin(1, 2), work(4, 2), drop(1), drop(2), make(), end(4), segments()]
        self.assertEqual(told(*calls)[-3:], [[1], [2, 0], [1, 3, 1, 1]])

    def test_nothing_is_left_in_the_house(self):
        calls = [*made(1), *made(2), begin(2, 1), work(3, 1), drop(1), drop(2), make(), work(3, 1), end(3)]
        self.assertEqual(told(*calls, segments(), make())[-3:], [[1, 0], [0], [0]])


if __name__ == "__main__":
    unittest.main()
