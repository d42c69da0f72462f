"""The disk once more, told another way: nothing is read from it.

What was kept is remembered whole, a house for each keeping, with the blocks in which its files and
its list stand. A row is written number by number, and whether the power went ahead of a keeping's
end or behind it is told by its root alone.
"""

import copy

from tests.model import Model


def cut(numbers):
    """The numbers in parts of eleven, the last of them shorter."""
    parts = []
    for place, number in enumerate(numbers):
        if place % 11 == 0:
            parts.append([])
        parts[-1].append(number)
    return parts


class Kept:
    """A house as it was kept, and where: by segments' numbers the blocks of their files, and those of the list."""

    def __init__(self, house, files, listed):
        self.house = copy.deepcopy(house)
        self.house.wait = {}
        self.house.merges = {}
        self.files = files
        self.listed = listed

    def free(self):
        taken = {0, 1}.union(self.listed, *self.files.values())
        return [block for block in range(64) if block not in taken]


class Todo:
    """A keeping that is yet to be done: its deeds, and what is kept behind it."""

    def __init__(self, number, house, before):
        self.left = before.free()
        self.deeds = []
        self.lacking = False
        files = {}
        for name, texts in house.row:
            if name in before.files:
                files[name] = before.files[name]
            else:
                numbers = [number for text in texts
                           for number in [text[0], len(house.words[text]), *house.words[text]]]
                files[name] = self.place(numbers)
        listed = self.place(self.list_of(house, files))
        self.kept = Kept(house, files, listed)
        self.deeds += ["flush", (number % 2, [number, listed[0], 64 * number + listed[0]]), "flush"]

    def list_of(self, house, files):
        numbers = [house.drawn + 1, len(house.row)]
        for name, texts in house.row:
            dead = [place for place, text in enumerate(texts) if house.living.get(text[0]) != text]
            numbers += [name, files[name][0], len(texts), len(dead), *dead]
        return numbers

    def place(self, numbers):
        blocks = []
        for part in cut(numbers):
            if not self.left:
                self.lacking = True
                return [0]
            blocks.append(self.left.pop(0))
        for block, following, part in zip(blocks, [*blocks[1:], 0], cut(numbers)):
            self.deeds.append((block, [following, *part]))
        return blocks


class DiskModel:
    def __init__(self):
        self.house = Model()
        self.blocks = {block: [] for block in range(64)}
        self.keepings = [Kept(self.house, {}, [])]

    def todo(self):
        return Todo(len(self.keepings), self.house, self.keepings[-1])

    def write(self, block, row, count):
        """Number by number, so many of them; a row that came to be whole has nothing behind it."""
        for place in range(min(count, len(row))):
            self.blocks[block] = self.blocks[block][:place] + [row[place]] + self.blocks[block][place + 1:]
        if count >= len(row):
            self.blocks[block] = self.blocks[block][:len(row)]

    def keep(self):
        todo = self.todo()
        if todo.lacking:
            return [-5]
        self.begin(todo, len(todo.deeds), [])
        return [len(self.keepings) - 1, len(todo.deeds), len(self.keepings[-1].free())]

    def begin(self, todo, count, told):
        told = list(told)
        for place, deed in enumerate(todo.deeds[:count]):
            if deed != "flush":
                sure = "flush" in todo.deeds[place:count]
                self.write(*deed, 99 if sure else told.pop(0) if told else 0)
        block, root = todo.deeds[-2]
        if count > len(todo.deeds) - 2 and self.blocks[block] == root:
            self.keepings.append(todo.kept)

    def fail(self, count, *told):
        todo = self.todo()
        if todo.lacking:
            return [-5]
        if count > len(todo.deeds):
            return [-1]
        self.begin(todo, count, told)
        return self.reopen()

    def reopen(self):
        self.house = copy.deepcopy(self.keepings[-1].house)
        return [len(self.keepings) - 1, len(self.house.living)]

    def deeds(self):
        todo = self.todo()
        if todo.lacking:
            return [-5]
        told = [len(todo.deeds)]
        for deed in todo.deeds:
            told += [0] if deed == "flush" else [1, deed[0], len(deed[1]), *deed[1]]
        return told

    def block(self, number):
        if number > 63:
            return [-1]
        return [len(self.blocks[number])] + self.blocks[number]

    def free(self):
        return [len(self.keepings[-1].free())] + self.keepings[-1].free()


def answer_of(model, call):
    """What the model answers to a call that is written as the document's interface tells."""
    house = model.house
    methods = (house.put, house.drop, house.make, house.begin, house.work, house.end, house.tidy, house.segments,
               house.find, house.text, model.keep, model.fail, model.reopen, model.deeds, model.block, model.free)
    return methods[call[0]](*call[2:-1])
