"""The plan: which segments are to be merged next."""

# So many segments of one level are merged together.
TOGETHER = 4
# A level begins with so many times the living texts with which the one below it begins.
STEP = 4


def level_of(living):
    """How often so many living texts can be divided by four, rounding down, while it's four or more."""
    level = 0
    rest = living
    while rest >= STEP:
        rest = rest // STEP
        level = level + 1
    return level


def by_level(segments):
    """The segments of each level, in the order in which they came."""
    levels = {}
    for segment in segments:
        level = level_of(segment.living())
        if level not in levels:
            levels[level] = []
        levels[level].append(segment)
    return levels


def planned(segments):
    """The first four of the lowest level that has four, or none; only segments in no merge are given."""
    levels = by_level(segments)
    for level in sorted(levels):
        if len(levels[level]) >= TOGETHER:
            return levels[level][:TOGETHER]
    return []
