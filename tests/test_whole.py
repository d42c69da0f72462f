"""What the document promises over the whole: whenever the power goes, and whatever came to be of the loose writes, the
house opens as it was kept before, or as it was to be kept now, and nothing between."""

import itertools
import unittest

from tests.lines import (begin, deeds_behind, drop, end, fail, find, keep, last, last_of, made, make, put, reopen,
                         segments, text, tidy, work)

COUNTS = (0, 1, 2, 5, 99)
NINE = list(range(21, 30))
TEN = list(range(31, 41))
# What is asked of a house: its row, what is found, the words of some keys, and, by a text made, its next number.
PROBE = [segments(), find(), find(25), text(1), text(2), text(5), put(90), make(), segments()]
SCENES = (
    [],
    [put(1, *TEN), make()],
    [put(1, *NINE), make(), keep(), drop(1), make()],
    [put(1, *TEN), put(2, 25), make(), keep(), put(1, 25), make(), keep(), drop(2), put(5, *NINE), make(), put(6)],
    [*made(1, 2), put(5, *TEN), make(), keep(), keep(), begin(2, 1), work(3, 2), drop(1), make(), work(3, 9), end(3)],
    [*made(1), *made(2), *made(3), *made(4), keep(), put(1, 3), make(), fail(3, 4, 2, 1), tidy(), drop(2), make()],
    [*made(1), keep(), *made(2), keep(), put(1, 7), make(), fail(6, 2), put(5, *TEN), make()],
    [*made(1), keep(), *made(2), keep(), put(1, 7), make(), fail(5, 1), *made(1, 5), begin(3, 1), work(4, 1)],
)


def loose(todo, count):
    """How many of the first deeds are writings with no flush behind them."""
    behind = list(itertools.takewhile(lambda deed: deed is not None, reversed(todo[:count])))
    return len(behind)


def failures(calls):
    """Each way in which the next keeping can fail: the call, and whether it's told that the keeping came to be."""
    todo = deeds_behind(*calls)
    for count in range(len(todo) + 1):
        for counts in itertools.product(COUNTS, repeat=min(3, loose(todo, count))):
            whole = count == len(todo) or (count == len(todo) - 1 and counts[0] >= 3)
            yield fail(count, *counts), whole
            if counts:
                yield fail(count, *reversed(counts), *counts), whole if count != len(todo) - 1 else counts[-1] >= 3


def probed(*calls):
    """The number of the keeping that the house is opened as, and what is asked of it then."""
    answers = last_of(len(PROBE) + 1, *calls, *PROBE)
    return [answers[0][0], *answers[1:]]


class BeforeOrNow(unittest.TestCase):
    def held(self, calls):
        before, now = probed(*calls, reopen()), probed(*calls, keep(), reopen())
        self.assertEqual(now[0], before[0] + 1)
        for failure, whole in failures(calls):
            self.assertEqual(probed(*calls, failure), now if whole else before, (calls, failure))

    def test_in_all_scenes(self):
        for calls in SCENES:
            self.held(calls)

    def test_behind_another_failure(self):
        for calls in SCENES:
            for failure, whole in list(failures(calls))[::41]:
                self.held([*calls, failure, put(2, *TEN), drop(1), make()])

    def test_what_was_answered_to_be_kept_is_kept(self):
        for calls in SCENES:
            kept = probed(*calls, keep(), reopen())
            for count in range(len(deeds_behind(*calls, keep()))):
                self.assertEqual(probed(*calls, keep(), put(1), drop(2), make(), fail(count, 2, 1)), kept)

    def test_what_was_kept_is_found_again_whole_and_the_dead_still_dead(self):
        asked = [segments(), find(), find(25), find(*NINE), *[text(key) for key in (1, 2, 3, 4, 5, 6)]]
        for calls in SCENES:
            kept = last_of(len(asked), *calls, keep(), *asked)
            self.assertEqual(last_of(len(asked), *calls, *asked), kept)
            for failure in (reopen(), fail(0), fail(2, 3, 3)):
                self.assertEqual(last_of(len(asked), *calls, keep(), failure, *asked), kept)

    def test_failures_in_a_row_and_then_a_keeping(self):
        for calls in SCENES:
            number = last(*calls, reopen())[0]
            for count in range(4):
                failing = [call for turn in range(5) for call in (put(5, turn + 1), make(), fail(count, 2, 1, 9))]
                self.assertEqual(probed(*calls, *failing), probed(*calls, reopen()))
                answers = last_of(3, *calls, *failing, put(5, *NINE), make(), keep(), reopen(), text(5))
                self.assertEqual([answers[0][0], answers[1][0], answers[2]], [number + 1, number + 1, [9, *NINE]])


if __name__ == "__main__":
    unittest.main()
