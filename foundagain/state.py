"""What a house has: its row of segments, what waits, and the merges that aren't over."""

from foundagain.merge import Merge, row_behind
from foundagain.plan import planned
from foundagain.segment import Segment


def is_key(number):
    """Whether a text may have this key."""
    return 1 <= number <= 100


def are_words(numbers):
    """Whether a text may have these words."""
    return len(numbers) <= 10 and all([1 <= number <= 50 for number in numbers])


def has_all(words, asked):
    """Whether all that are asked are among these words."""
    return all([word in words for word in asked])


class House:
    """A method that a call names gives back the numbers answered; one number below 0 is a refusal."""

    def __init__(self, row, upcoming):
        self.row = row
        # For each key its words, or None where it's dropped.
        self.waiting = {}
        self.merges = {}
        # The next number to be drawn.
        self.upcoming = upcoming

    def put(self, key, words):
        """Lets a text wait."""
        if not is_key(key) or not are_words(words):
            return [-1]
        self.waiting[key] = words
        return [len(self.waiting)]

    def drop(self, key):
        """Lets it wait that a key is dropped."""
        if not is_key(key):
            return [-1]
        self.waiting[key] = None
        return [len(self.waiting)]

    def make(self):
        """Makes what waits."""
        for segment in self.row:
            segment.bury(self.waiting)
        for merge in self.merges.values():
            merge.copied.bury(self.waiting)
        keys = [key for key in sorted(self.waiting) if self.waiting[key] is not None]
        if keys:
            made = Segment(self.draw())
            for key in keys:
                made.take(key, self.waiting[key])
            self.row.append(made)
        self.waiting = {}
        return [self.living()]

    def begin(self, numbers):
        """Begins a merge of the segments of these numbers, in this order."""
        refusal = self.begin_refusal(numbers)
        if refusal < 0:
            return [refusal]
        by_number = {}
        for segment in self.row:
            by_number[segment.number] = segment
        return [self.begin_merge([by_number[number] for number in numbers])]

    def work(self, number, how_many):
        """Lets a merge go through so many texts more."""
        if number not in self.merges:
            return [-2]
        merge = self.merges[number]
        merge.go_through(how_many)
        return [len(merge.ahead)]

    def end(self, number):
        """Ends a merge that has gone through all."""
        if number not in self.merges:
            return [-2]
        if self.merges[number].ahead:
            return [-6]
        copied = self.end_merge(number)
        return [len(copied.texts), copied.living()]

    def tidy(self):
        """Merges at once what the plan tells, as long as there is one."""
        merges = 0
        texts = 0
        plan = planned(self.unmerged())
        while plan:
            number = self.begin_merge(plan)
            merge = self.merges[number]
            merge.go_through(len(merge.ahead))
            merges = merges + 1
            texts = texts + len(self.end_merge(number).texts)
            plan = planned(self.unmerged())
        return [merges, texts]

    def segments(self):
        """Tells of each segment in the row its number, its texts and how many of them live."""
        told = [len(self.row)]
        for segment in self.row:
            told.extend([segment.number, len(segment.texts), segment.living()])
        return told

    def find(self, words):
        """Tells the keys of the living texts that have all these words."""
        texts = self.living_texts()
        keys = [key for key in sorted(texts) if has_all(texts[key], words)]
        return [len(keys)] + keys

    def text(self, key):
        """Tells the words of the living text of a key."""
        texts = self.living_texts()
        if key not in texts:
            return [-3]
        return [len(texts[key])] + texts[key]

    def living(self):
        """How many texts live in the segments."""
        return sum([segment.living() for segment in self.row])

    def living_texts(self):
        """The words of each living text by its key: of no key more than one lives."""
        texts = {}
        for segment in self.row:
            for place, text in enumerate(segment.texts):
                if segment.lives[place]:
                    texts[text[0]] = text[1]
        return texts

    def draw(self):
        """Draws a number from the one row that segments and merges have."""
        number = self.upcoming
        self.upcoming = number + 1
        return number

    def begin_refusal(self, numbers):
        """The first refusal that holds for a merge of these numbers, or 0."""
        if len(numbers) < 2 or len(numbers) > 10 or len(set(numbers)) < len(numbers):
            return -1
        present = [segment.number for segment in self.row]
        if any([number not in present for number in numbers]):
            return -2
        unmerged = [segment.number for segment in self.unmerged()]
        if any([number not in unmerged for number in numbers]):
            return -6
        return 0

    def unmerged(self):
        """The segments that are in no merge, in the house's row."""
        merged = []
        for merge in self.merges.values():
            merged.extend(merge.merged)
        return [segment for segment in self.row if segment.number not in merged]

    def begin_merge(self, segments):
        """Begins a merge that isn't refused, and gives back its number."""
        number = self.draw()
        self.merges[number] = Merge(number, segments)
        return number

    def end_merge(self, number):
        """Ends a merge that isn't refused, and gives back what it copied."""
        merge = self.merges.pop(number)
        self.row = row_behind(self.row, merge)
        return merge.copied
