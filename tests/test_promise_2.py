"""Promise 2: what begin, work and end refuse, and which refusal is answered of several."""

import unittest

from tests.lines import begin, drop, end, last, made, make, segments, told, work

LARGEST = 4294967295
TWO = [*made(1, 2), *made(3)]
ELEVEN = [call for key in range(1, 12) for call in made(key)]


class Begin(unittest.TestCase):
    def test_how_many_numbers(self):
        self.assertEqual(last(*ELEVEN, begin()), [-1])
        self.assertEqual(last(*ELEVEN, begin(1)), [-1])
        self.assertEqual(last(*ELEVEN, begin(1, 2)), [12])
        self.assertEqual(last(*ELEVEN, begin(*range(1, 11))), [12])
        self.assertEqual(last(*ELEVEN, begin(*range(1, 12))), [-1])
        self.assertEqual(last(*ELEVEN, begin(*range(1, 401))), [-1])

    def test_a_number_that_comes_twice(self):
        self.assertEqual(last(*TWO, begin(1, 1)), [-1])
        self.assertEqual(last(*ELEVEN, begin(1, 2, 3, 1)), [-1])
        self.assertEqual(last(*ELEVEN, begin(4, 2, 3, 3, 5)), [-1])

    def test_a_segment_that_is_not_there(self):
        for numbers in ((1, 3), (3, 1), (0, 1), (1, LARGEST), (1, 2, 3), (8, 9)):
            self.assertEqual(last(*TWO, begin(*numbers)), [-2])
        self.assertEqual(told(begin(1, 2)), [[-2]])

    def test_a_merge_is_no_segment_until_it_is_over(self):
        calls = [*TWO, *made(4), begin(1, 2)]
        self.assertEqual(last(*calls, begin(3, 4)), [-2])
        self.assertEqual(last(*calls, work(4, 9), begin(3, 4)), [-2])
        self.assertEqual(last(*calls, work(4, 9), end(4), begin(3, 4)), [5])

    def test_a_segment_that_was_merged_is_not_there(self):
        calls = [*TWO, *made(4), begin(1, 2), work(4, 9), end(4)]
        self.assertEqual(last(*calls, begin(1, 3)), [-2])
        self.assertEqual(last(*calls, begin(3, 2)), [-2])

    def test_a_segment_of_which_nothing_lives_is_there(self):
        self.assertEqual(last(*TWO, drop(3), make(), begin(2, 1)), [3])

    def test_a_segment_in_a_merge_that_is_not_over(self):
        calls = [*TWO, *made(4), begin(1, 2)]
        for numbers in ((1, 3), (3, 1), (2, 3), (1, 2), (2, 1), (1, 2, 3)):
            self.assertEqual(last(*calls, begin(*numbers)), [-6])
        self.assertEqual(last(*calls, work(4, 3), begin(3, 2)), [-6])

    def test_the_refusal_told_first(self):
        calls = [*TWO, *made(4), begin(1, 2)]
        self.assertEqual(last(*calls, begin(1)), [-1])
        self.assertEqual(last(*calls, begin(9)), [-1])
        self.assertEqual(last(*calls, begin(1, 1)), [-1])
        self.assertEqual(last(*calls, begin(9, 9)), [-1])
        self.assertEqual(last(*calls, begin(1, 9, 9)), [-1])
        self.assertEqual(last(*calls, begin(*range(1, 12))), [-1])
        self.assertEqual(last(*calls, begin(1, 9)), [-2])
        self.assertEqual(last(*calls, begin(9, 1)), [-2])
        self.assertEqual(last(*calls, begin(1, 4)), [-2])

    def test_a_refusal_changes_nothing(self):
        calls = [*TWO, *made(4)]
        for refused in (begin(1), begin(1, 1), begin(1, 9)):
            self.assertEqual(told(*calls, refused, begin(1, 2), segments())[-2:],
                             [[4], [3, 1, 2, 2, 2, 1, 1, 3, 1, 1]])
        self.assertEqual(told(*calls, begin(1, 2), begin(3, 2), *made(5), segments())[-1],
                         [4, 1, 2, 2, 2, 1, 1, 3, 1, 1, 5, 1, 1])
        self.assertEqual(last(*calls, *made(5), begin(1, 2), begin(3, 2), begin(3, 4)), [6])


class Work(unittest.TestCase):
    def test_it_tells_how_many_are_left(self):
        self.assertEqual(told(*TWO, begin(1, 2), work(3, 1), work(3, 1), work(3, 1))[-3:], [[2], [1], [0]])

    def test_by_none_and_by_more_than_is_left(self):
        self.assertEqual(told(*TWO, begin(1, 2), work(3, 0), work(3, 2), work(3, 0), work(3, 2), work(3, 0))[-5:],
                         [[3], [1], [1], [0], [0]])
        self.assertEqual(last(*TWO, begin(1, 2), work(3, LARGEST)), [0])

    def test_the_dead_are_gone_through_too(self):
        self.assertEqual(told(*TWO, drop(1), make(), begin(1, 2), work(3, 1), work(3, 1))[-2:], [[2], [1]])

    def test_no_such_merge(self):
        self.assertEqual(told(work(1, 1), work(0, 0)), [[-2], [-2]])
        calls = [*TWO, begin(1, 2)]
        for number in (0, 1, 2, 4, LARGEST):
            self.assertEqual(last(*calls, work(number, 1)), [-2])
        self.assertEqual(last(*calls, work(3, 9), end(3), work(3, 0)), [-2])

    def test_a_refusal_changes_nothing(self):
        self.assertEqual(last(*TWO, begin(1, 2), work(2, 3), work(3, 0)), [3])


class End(unittest.TestCase):
    def test_no_such_merge(self):
        self.assertEqual(told(end(0), end(1)), [[-2], [-2]])
        calls = [*TWO, begin(1, 2), work(3, 9)]
        for number in (0, 1, 2, 4, LARGEST):
            self.assertEqual(last(*calls, end(number)), [-2])
        self.assertEqual(last(*calls, end(3), end(3)), [-2])

    def test_ahead_of_the_last_text_and_behind_it(self):
        calls = [*TWO, begin(1, 2)]
        self.assertEqual(told(*calls, end(3), work(3, 2), end(3), work(3, 1), end(3), end(3))[-6:],
                         [[-6], [1], [-6], [0], [3, 3], [-2]])

    def test_ahead_of_a_last_text_that_is_dead(self):
        self.assertEqual(told(*TWO, begin(1, 2), drop(3), make(), work(3, 2), end(3), work(3, 1), end(3))[-4:],
                         [[1], [-6], [0], [2, 2]])

    def test_a_refusal_changes_nothing(self):
        self.assertEqual(told(*TWO, begin(1, 2), work(3, 2), end(3), segments(), begin(1, 2), work(3, 0))[-3:],
                         [[2, 1, 2, 2, 2, 1, 1], [-6], [1]])


if __name__ == "__main__":
    unittest.main()
