"""A segment: texts in order under a number, each of them living or dead."""


class Segment:
    """A text is its key and its words; whether it lives stands at the same place in lives."""

    def __init__(self, number):
        self.number = number
        self.texts = []
        self.lives = []
        # The first block of its file. Block 0 is a root, so 0 tells that it has no file yet.
        self.file = 0

    def take(self, key, words):
        """Sets a living text behind the others."""
        self.texts.append((key, words))
        self.lives.append(True)

    def bury(self, keys):
        """Lets the texts of these keys be dead from now on."""
        for place, text in enumerate(self.texts):
            if text[0] in keys:
                self.lives[place] = False

    def bury_at(self, places):
        """Lets the texts at these places be dead from now on."""
        for place in places:
            self.lives[place] = False

    def living(self):
        """How many of the texts live."""
        return self.lives.count(True)

    def dead(self):
        """At which places dead texts stand, rising."""
        return [place for place, lives in enumerate(self.lives) if not lives]
