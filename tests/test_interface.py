"""The interface: how calls are handed in and answers given back, and that nothing is changed or kept."""

import unittest

from foundagain.house import answers
from tests.lines import (begin, block, deeds, drop, end, fail, find, free, joined, keep, made, make, put, reopen,
                         segments, text, tidy, work)

EVERY_CALL = [put(7, 1, 2), put(3), put(0), drop(3), drop(101), *made(4), *made(5, 6), segments(), begin(2, 1),
              begin(1), begin(1, 9), begin(1, 2), work(3, 2), work(9, 1), end(3), end(9), put(7), make(),
              work(3, 9), end(3), find(), find(1, 1), text(5), text(99), deeds(), keep(), free(), block(2), block(64),
              *made(8), *made(9), fail(2, 1, 1), fail(99), *made(1), fail(6, 3), *made(9), tidy(), reopen(),
              deeds(), segments()]


def refuse(*ignored, **also_ignored):
    raise AssertionError("what is handed in is changed")


class Unchangeable(list):
    append = extend = insert = remove = pop = clear = sort = reverse = refuse
    __setitem__ = __delitem__ = __iadd__ = __imul__ = refuse


class Interface(unittest.TestCase):
    def test_the_numbers_of_the_calls(self):
        calls = [0, 3, 7, 5, 50, 0, 1, 1, 8, 0, 2, 0, 0, 0, 1, 9, 0, 2, 0, 0, 3, 2, 2, 1, 0, 4, 2, 3, 2, 0, 5, 1, 3, 0,
                 6, 0, 0, 7, 0, 0]
        self.assertEqual(answers(calls), [1, 1, 1, 2, 1, 1, 1, 1, 1, 2, 1, 3, 1, 0, 2, 2, 2, 2, 0, 0, 4, 1, 3, 2, 2])

    def test_the_numbers_of_the_calls_of_the_disk(self):
        calls = [0, 3, 7, 5, 50, 0, 2, 0, 0, 8, 1, 5, 0, 8, 0, 0, 9, 1, 7, 0, 10, 0, 0, 11, 2, 3, 2, 0, 12, 0, 0,
                 13, 0, 0, 14, 1, 1, 0, 15, 0, 0]
        self.assertEqual(answers(calls), [1, 1, 1, 1, 2, 1, 7, 2, 1, 7, 3, 2, 5, 50, 3, 1, 5, 60, 2, 1, 1, 2, 1, 1,
                                          19, 4, 1, 4, 7, 0, 2, 1, 1, 2, 1, 0, 0, 1, 0, 3, 2, 4, 132, 0,
                                          4, 3, 1, 3, 67, 61, 60, *range(4, 64)])

    def test_a_refusal_is_its_number_alone(self):
        self.assertEqual(answers([0, 1, 0, 0, 3, 0, 0, 4, 2, 1, 1, 0, 5, 1, 1, 0]), [1, -1, 1, -1, 1, -2, 1, -2])
        self.assertEqual(answers([9, 1, 1, 0, 11, 1, 9, 0, 14, 1, 64, 0]), [1, -3, 1, -1, 1, -1])

    def test_whole_numbers_and_never_true_or_false(self):
        answered = answers(joined(EVERY_CALL))
        self.assertIs(type(answered), list)
        self.assertEqual({type(number) for number in answered}, {int})

    def test_what_is_handed_in_is_not_changed(self):
        calls = joined(EVERY_CALL)
        before = list(calls)
        answers(calls)
        self.assertEqual(calls, before)

    def test_it_is_not_changed_for_a_while_either(self):
        calls = joined(EVERY_CALL)
        self.assertEqual(answers(Unchangeable(calls)), answers(calls))

    def test_each_time_is_as_the_first(self):
        calls = joined(EVERY_CALL)
        first = answers(calls)
        self.assertEqual(answers(calls), first)
        self.assertEqual(answers(joined([segments(), put(1), make()])), [1, 0, 1, 1, 1, 1])
        self.assertEqual(answers(joined([put(2), make(), segments()])), [1, 1, 1, 1, 4, 1, 1, 1, 1])
        self.assertEqual(answers(calls), first)

    def test_what_is_given_back_is_not_kept(self):
        calls = joined(EVERY_CALL)
        first = answers(calls)
        before = list(first)
        first.clear()
        self.assertEqual(answers(calls), before)


if __name__ == "__main__":
    unittest.main()
