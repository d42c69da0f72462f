"""Lines of calls drawn by a fixed seed, held against the model's answers."""

import random
import unittest

from tests.lines import begin, drop, end, make, put, segments, tidy, told, work
from tests.model import Model, answer_of

LINES = 3000
LARGEST = 4294967295


class Line:
    """Draws calls one behind another, and asks the model, so that later calls can meet what is there."""

    def __init__(self, draw):
        self.draw = draw
        self.keys = draw.choice((3, 10, 30, 100))
        self.model = Model()
        self.calls = []
        self.answers = []
        for place in range(draw.randint(1, 59)):
            self.ask(self.drawn_call())
        self.ask(segments())

    def ask(self, call):
        self.calls.append(call)
        self.answers.append(answer_of(self.model, call))

    def number(self, greatest):
        """Most often a number from 1 to the greatest, sometimes one from outside."""
        if self.draw.random() < 0.03:
            return self.draw.choice((0, greatest + 1, LARGEST))
        return self.draw.randint(1, greatest)

    def words(self):
        if self.draw.random() < 0.8:
            return []
        return [self.number(50) for place in range(self.draw.randrange(12))]

    def merge(self):
        if not self.model.merges or self.draw.random() < 0.1:
            return self.number(self.model.drawn + 1)
        return self.draw.choice(list(self.model.merges))

    def sources(self):
        present = [number for number, texts in self.model.row]
        if len(present) < 2 or self.draw.random() < 0.2:
            return [self.number(self.model.drawn + 1) for place in range(self.draw.choice((0, 1, 2, 2, 3, 11)))]
        return self.draw.sample(present, min(len(present), self.draw.choice((2, 2, 3, 4))))

    def drawn_call(self):
        kind = self.draw.randrange(20)
        if kind < 6:
            return put(self.number(self.keys), *self.words())
        if kind < 8:
            return drop(self.number(self.keys))
        if kind < 11:
            return make()
        if kind < 13:
            return begin(*self.sources())
        if kind < 16:
            return work(self.merge(), self.draw.choice((0, 1, 1, 2, 2, 3, 9, LARGEST)))
        if kind < 18:
            return end(self.merge())
        return self.draw.choice((tidy(), segments(), segments(), segments()))


class AgainstTheModel(unittest.TestCase):
    def test_lines_of_all_calls(self):
        draw = random.Random(2)
        for turn in range(LINES):
            line = Line(draw)
            self.assertEqual(told(*line.calls), line.answers, line.calls)


if __name__ == "__main__":
    unittest.main()
