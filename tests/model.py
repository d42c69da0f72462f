"""The house once more, told another way, so that both tellings can be held against each other.

Nothing is marked dead here. A text is its key and the count of the make that brought it, and the
house knows for each key which of its texts lives: a text lives if it's that one. What a merge has
copied is found by looking back: at which count each of its texts was gone through, and up to
which count it lived.
"""


class Model:
    def __init__(self):
        self.makes = 0
        self.drawn = 0
        self.wait = {}
        self.row = []
        self.merges = {}
        self.living = {}
        self.died = {}
        self.words = {}

    def draw(self):
        self.drawn += 1
        return self.drawn

    def alive(self, texts):
        return sum(1 for text in texts if self.living.get(text[0]) == text)

    def put(self, key, *words):
        if key not in range(1, 101) or set(words) - set(range(1, 51)) or len(words) > 10:
            return [-1]
        self.wait[key] = list(words)
        return [len(self.wait)]

    def drop(self, key):
        if key not in range(1, 101):
            return [-1]
        self.wait[key] = None
        return [len(self.wait)]

    def make(self):
        self.makes += 1
        for key in self.wait:
            if key in self.living:
                self.died[self.living.pop(key)] = self.makes
        texts = [(key, self.makes) for key in range(1, 101) if self.wait.get(key) is not None]
        self.living.update({text[0]: text for text in texts})
        self.words.update({text: self.wait[text[0]] for text in texts})
        if texts:
            self.row.append((self.draw(), texts))
        self.wait = {}
        return [len(self.living)]

    def begin(self, *numbers):
        if not 2 <= len(numbers) <= 10 or any(numbers.count(number) > 1 for number in numbers):
            return [-1]
        if not set(numbers) <= set(dict(self.row)):
            return [-2]
        if any(set(numbers) & set(merged) for merged, gone in self.merges.values()):
            return [-6]
        number = self.draw()
        self.merges[number] = (numbers, [])
        return [number]

    def texts_of(self, numbers):
        return [text for number in numbers for text in dict(self.row)[number]]

    def work(self, number, how_many):
        if number not in self.merges:
            return [-2]
        merged, gone = self.merges[number]
        left = len(self.texts_of(merged)) - len(gone)
        gone.extend([self.makes] * min(how_many, left))
        return [left - min(how_many, left)]

    def end(self, number):
        if number not in self.merges:
            return [-2]
        merged, gone = self.merges[number]
        texts = self.texts_of(merged)
        if len(gone) < len(texts):
            return [-6]
        copied = [text for text, when in zip(texts, gone) if text not in self.died or when < self.died[text]]
        place = min(place for place, segment in enumerate(self.row) if segment[0] in merged)
        self.row[place:place] = [(number, copied)] if self.alive(copied) else []
        self.row = [segment for segment in self.row if segment[0] not in merged]
        self.merges.pop(number)
        return [len(copied), self.alive(copied)]

    def level(self, texts):
        return max([0] + [power for power in range(1, 9) if self.alive(texts) >= 4 ** power])

    def plan(self):
        busy = {number for merged, gone in self.merges.values() for number in merged}
        for level in range(9):
            found = [number for number, texts in self.row if number not in busy and self.level(texts) == level]
            if len(found) > 3:
                return found[:4]
        return None

    def tidy(self):
        copied = []
        while self.plan():
            number = self.begin(*self.plan())[0]
            self.work(number, 4294967295)
            copied.append(self.end(number)[0])
        return [len(copied), sum(copied)]

    def segments(self):
        told = [[number, len(texts), self.alive(texts)] for number, texts in self.row]
        return [len(told)] + [number for row in told for number in row]

    def find(self, *words):
        keys = [key for key in range(1, 101) if key in self.living and set(words) <= set(self.words[self.living[key]])]
        return [len(keys)] + keys

    def text(self, key):
        if key not in self.living:
            return [-3]
        return [len(self.words[self.living[key]])] + self.words[self.living[key]]
