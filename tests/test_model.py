"""Lines of calls drawn by a fixed seed, held against the models' answers."""

import random
import unittest

from tests.disk_model import DiskModel, answer_of
from tests.lines import (begin, block, deeds, drop, end, fail, find, free, keep, make, put, reopen, segments, text,
                         tidy, told, work)

LINES = 800
LARGEST = 4294967295


class Line:
    """Draws calls one behind another, and asks the model, so that later calls can meet what is there."""

    def __init__(self, draw):
        self.draw = draw
        self.keys = draw.choice((3, 10, 30, 100))
        self.wordy = draw.choice((0.2, 0.8, 1))
        self.model = DiskModel()
        self.calls = []
        self.answers = []

    def ask(self, *calls):
        for call in calls:
            self.calls.append(call)
            self.answers.append(answer_of(self.model, call))

    def number(self, greatest, wrong=0.03):
        """Most often a number from 1 to the greatest, sometimes one from outside."""
        if self.draw.random() < wrong:
            return self.draw.choice((0, greatest + 1, LARGEST))
        return self.draw.randint(1, greatest)

    def words(self):
        if self.draw.random() > self.wordy:
            return []
        count = 11 if self.draw.random() < 0.03 else self.draw.choice((1, 2, 9, 10, 10, 10))
        return [self.number(50, 0.003) for place in range(count)]

    def merge(self):
        if not self.model.house.merges or self.draw.random() < 0.1:
            return self.number(self.model.house.drawn + 1)
        return self.draw.choice(list(self.model.house.merges))

    def sources(self):
        present = [number for number, texts in self.model.house.row]
        if len(present) < 2 or self.draw.random() < 0.2:
            return [self.number(self.model.house.drawn + 1) for place in range(self.draw.choice((0, 1, 2, 2, 3, 11)))]
        return self.draw.sample(present, min(len(present), self.draw.choice((2, 2, 3, 4))))

    def counts(self):
        return [self.draw.choice((0, 1, 2, 3, 11, 12, 99)) for place in range(self.draw.choice((0, 1, 1, 3, 9, 70)))]

    def drawn_on_the_house(self):
        """Of a house with few segments there's little to merge, so that most often more is put and made."""
        kind = self.draw.randrange(22)
        if kind > 12 and self.draw.random() < 0.9 and len(self.model.house.row) < 2:
            kind = self.draw.choice((0, 12))
        if kind > 14 and self.draw.random() < 0.9 and not self.model.house.merges:
            kind = self.draw.choice((0, 12, 14, 20))
        if kind < 7:
            return put(self.number(self.keys), *self.words())
        if kind < 9:
            return drop(self.number(self.keys))
        if kind < 13:
            return make()
        if kind < 15:
            return begin(*self.sources())
        if kind < 18:
            return work(self.merge(), self.draw.choice((0, 1, 1, 2, 2, 3, 9, LARGEST)))
        if kind < 20:
            return end(self.merge())
        return self.draw.choice((tidy(), segments(), find(), find(self.number(50)), text(self.number(self.keys))))

    def drawn_on_the_disk(self):
        kind = self.draw.randrange(14)
        if kind < 6:
            return keep()
        if kind < 9:
            todo = self.model.todo().deeds
            return fail(self.draw.choice((len(todo) - 1, self.draw.randint(0, len(todo) + 1))), *self.counts())
        if kind < 10:
            return reopen()
        return self.draw.choice((deeds(), free(), block(self.number(9)), block(self.number(63))))


def line_of_the_house(draw):
    """Calls that have nothing to do with the disk, and what is there behind them."""
    line = Line(draw)
    for place in range(draw.randint(1, 58)):
        line.ask(line.drawn_on_the_house())
    line.ask(segments(), find())
    return line


def line_of_all(draw):
    """All calls, and behind them what is in the house, what would be kept, and what stands in some blocks."""
    line = Line(draw)
    share = draw.choice((0.1, 0.2, 0.4))
    for place in range(draw.randint(1, 48)):
        line.ask(line.drawn_on_the_disk() if draw.random() < share else line.drawn_on_the_house())
    line.ask(segments(), find(), free(), deeds(), *[block(number) for number in (0, 1, 2, 3)])
    line.ask(*[block(draw.randrange(64)) for place in range(3)], reopen())
    return line


def crowded_line(draw):
    """What was kept takes about half of the blocks, and a merge of it as many again."""
    line = Line(draw)
    line.keys, line.wordy = 100, 1
    for key in draw.sample(range(1, 101), draw.randint(23, 27)):
        line.ask(put(key, *[draw.randint(1, 50) for place in range(10)]))
    line.ask(make(), line.drawn_on_the_house(), put(draw.randint(1, 100)), make(), keep())
    line.ask(begin(1, 2), work(3, draw.choice((5, 99, 99))), line.drawn_on_the_house(), make(), work(3, 99), end(3))
    while len(line.calls) < 55:
        line.ask(line.drawn_on_the_disk() if draw.random() < 0.5 else line.drawn_on_the_house())
    line.ask(fail(draw.randint(0, 70)), deeds(), keep(), free(), find())
    return line


class AgainstTheModel(unittest.TestCase):
    def held(self, draw_line, seed):
        draw = random.Random(seed)
        for turn in range(LINES):
            line = draw_line(draw)
            self.assertLessEqual(len(line.calls), 60)
            self.assertEqual(told(*line.calls), line.answers, line.calls)

    def test_lines_of_the_house(self):
        self.held(line_of_the_house, 2)

    def test_lines_of_all_calls(self):
        self.held(line_of_all, 3)

    def test_lines_that_crowd_the_disk(self):
        self.held(crowded_line, 4)


if __name__ == "__main__":
    unittest.main()
