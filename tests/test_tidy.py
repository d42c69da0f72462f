"""What stands ahead of the promises: the plan, its levels, and tidy."""

import unittest

from foundagain.plan import level_of
from tests.lines import begin, drop, end, last, made, make, order_of, put, segments, tidy, told, work


def singles(*keys):
    """Calls by which a segment for each of these keys is made."""
    return [call for key in keys for call in made(key)]


class Levels(unittest.TestCase):
    def test_the_edges_of_the_levels(self):
        for living, level in ((0, 0), (1, 0), (3, 0), (4, 1), (15, 1), (16, 2), (63, 2), (64, 3), (100, 3)):
            self.assertEqual(level_of(living), level)


class NoPlan(unittest.TestCase):
    def test_nothing_in_the_house(self):
        self.assertEqual(told(tidy(), segments()), [[0, 0], [0]])

    def test_three_of_a_level(self):
        self.assertEqual(told(*singles(1, 2, 3), tidy(), segments())[-2:], [[0, 0], [3, 1, 1, 1, 2, 1, 1, 3, 1, 1]])

    def test_four_of_more_than_one_level(self):
        calls = [*singles(1, 2, 3), *made(4, 5, 6, 7), tidy(), segments()]
        self.assertEqual(told(*calls)[-2:], [[0, 0], [4, 1, 1, 1, 2, 1, 1, 3, 1, 1, 4, 4, 4]])

    def test_no_number_is_drawn(self):
        self.assertEqual(last(*singles(1), tidy(), *made(2), segments()), [2, 1, 1, 1, 2, 1, 1])

    def test_what_waits_does_not_count(self):
        self.assertEqual(last(*singles(1, 2, 3), put(4), tidy()), [0, 0])


class Plan(unittest.TestCase):
    def test_four_of_level_0(self):
        calls = [*made(1, 2, 3), *made(4), *made(5, 6), *made(7), tidy(), segments()]
        self.assertEqual(told(*calls)[-2:], [[1, 7], [1, 5, 7, 7]])

    def test_the_first_four_in_the_row(self):
        calls = [*made(11, 12, 13, 14), *singles(1, 2, 3), *made(21, 22, 23, 24), *singles(5, 6), tidy(), segments()]
        self.assertEqual(told(*calls)[-2:], [[1, 4], [4, 1, 4, 4, 8, 4, 4, 5, 4, 4, 7, 1, 1]])

    def test_it_is_merged_in_the_order_of_the_row(self):
        calls = [*singles(8, 3, 9), begin(3, 1), work(4, 9), end(4), *singles(1, 2), tidy(), *made(50)]
        self.assertEqual(order_of(calls, (7, 8), 9, [1, 2, 3, 8, 9, 50]), [9, 8, 3, 1, 2, 50])

    def test_the_living_count_and_not_all_texts(self):
        calls = [*made(1, 2, 3, 4, 5), *singles(6, 7, 8), drop(1), drop(2)]
        self.assertEqual(last(*calls, tidy()), [0, 0])
        self.assertEqual(told(*calls, make(), tidy(), segments())[-2:], [[1, 6], [1, 5, 6, 6]])

    def test_segments_of_which_nothing_lives(self):
        calls = [*singles(1, 2, 3, 4), drop(2), drop(3), make(), tidy(), segments()]
        self.assertEqual(told(*calls)[-2:], [[1, 2], [1, 5, 2, 2]])
        calls = [*singles(1, 2, 3, 4), *[drop(key) for key in (1, 2, 3, 4)], make(), tidy(), segments()]
        self.assertEqual(told(*calls)[-2:], [[1, 0], [0]])
        self.assertEqual(last(*calls, *made(9), segments()), [1, 6, 1, 1])

    def test_a_later_tidy_has_nothing_to_do(self):
        self.assertEqual(told(*singles(1, 2, 3, 4), tidy(), tidy())[-2:], [[1, 4], [0, 0]])


class LevelsAbove(unittest.TestCase):
    def test_four_of_level_1(self):
        calls = [*made(1, 2, 3, 4), *made(*range(11, 26)), *made(31, 32, 33, 34), *made(41, 42, 43, 44, 45)]
        self.assertEqual(told(*calls, tidy(), segments())[-2:], [[1, 28], [1, 5, 28, 28]])

    def test_sixteen_are_of_another_level(self):
        calls = [*made(1, 2, 3, 4), *made(*range(11, 27)), *made(31, 32, 33, 34), *made(41, 42, 43, 44, 45)]
        self.assertEqual(told(*calls, tidy())[-1], [0, 0])

    def test_the_lowest_level_goes_first(self):
        high = [call for first in (10, 20, 30, 40) for call in made(*range(first, first + 4))]
        calls = [*high, *singles(1, 2, 3, 4), tidy(), segments()]
        # The segment 9 is of level 1 then, and stands behind the four that are merged next.
        self.assertEqual(told(*calls)[-2:], [[2, 20], [2, 10, 16, 16, 9, 4, 4]])

    def test_plan_upon_plan(self):
        calls = [*singles(*range(1, 17)), tidy(), segments()]
        self.assertEqual(told(*calls)[-2:], [[5, 32], [1, 21, 16, 16]])

    def test_plan_upon_plan_of_one_level(self):
        # Four segments with one living text among them are merged to one of level 0 again.
        calls = [*singles(*range(1, 8)), drop(1), drop(2), drop(3), make(), tidy(), segments()]
        self.assertEqual(told(*calls)[-2:], [[2, 5], [1, 9, 4, 4]])


class MergesOnTheirWay(unittest.TestCase):
    def test_segments_in_a_merge_do_not_count(self):
        calls = [*singles(1, 2, 3, 4, 5), begin(2, 4)]
        self.assertEqual(last(*calls, tidy()), [0, 0])
        self.assertEqual(last(*calls, work(6, 9), tidy()), [0, 0])
        self.assertEqual(told(*calls, work(6, 9), end(6), tidy(), segments())[-2:], [[1, 5], [1, 7, 5, 5]])

    def test_the_plan_goes_round_them(self):
        calls = [*singles(1, 2, 3, 4, 5, 6), begin(4, 2), work(7, 1), tidy(), segments()]
        self.assertEqual(told(*calls)[-2:], [[1, 4], [3, 8, 4, 4, 2, 1, 1, 4, 1, 1]])

    def test_they_go_on_behind_it(self):
        calls = [*singles(1, 2, 3, 4, 5, 6), begin(4, 2), work(7, 1), tidy(), work(7, 1), end(7), segments()]
        self.assertEqual(told(*calls)[-3:], [[0], [2, 2], [2, 8, 4, 4, 7, 2, 2]])

    def test_what_tidy_merged_is_over(self):
        self.assertEqual(told(*singles(1, 2, 3, 4), tidy(), work(5, 1), end(5), *made(9), begin(5, 6))[-5:],
                         [[-2], [-2], [1], [5], [7]])


if __name__ == "__main__":
    unittest.main()
