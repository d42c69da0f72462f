"""A merge of segments on its way, and the row of segments behind it."""

from foundagain.segment import Segment


class Merge:
    """What it copies is a segment of its own number, which may stand in the row when it's over."""

    def __init__(self, number, segments):
        self.merged = [segment.number for segment in segments]
        self.ahead = places_of(segments)
        self.copied = Segment(number)

    def go_through(self, how_many):
        """Goes through so many texts more, or all that are left, and copies those that live."""
        passed = self.ahead[:how_many]
        self.ahead = self.ahead[how_many:]
        for segment, place in passed:
            if segment.lives[place]:
                key, words = segment.texts[place]
                self.copied.take(key, words)


def places_of(segments):
    """Where the texts of these segments stand, in the order in which a merge goes through them."""
    places = []
    for segment in segments:
        for place in range(len(segment.texts)):
            places.append((segment, place))
    return places


def row_behind(row, merge):
    """The row when the merge is over: what it copied, if any lives, in the first merged one's place."""
    behind = []
    placed = False
    for segment in row:
        if segment.number not in merge.merged:
            behind.append(segment)
        elif not placed:
            placed = True
            if merge.copied.living() > 0:
                behind.append(merge.copied)
    return behind
