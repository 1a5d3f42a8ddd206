"""Rows and lists behind walks of any counts, and ranked rows."""

from creelway.carriers import look_walks
from creelway.rows import stretches
from creelway.trains import list_of, look_trains, row_of


def added(trains, walks):
    """The list behind walks, rising."""
    look_trains(trains)
    look_walks(walks)
    return sorted([(size, offset + gain(walks, size)) for size, offset in trains])


def gain(walks, size):
    """What walks add to the offset of a train of this size."""
    return sum([count * min(creel, size) for creel, count in walks])


def far(row, walks):
    """The row behind walks, pairs of a creel and a count, told by its list alone."""
    return row_of(added(list_of(row), walks))


def is_ranked(row):
    """Whether no stretch is shorter than the one ahead of it, or nearer to it than that one is long."""
    pairs = stretches(row)
    for (first, last), (start, end) in zip(pairs, pairs[1:]):
        length = last - first + 1
        if end - start + 1 < length or start - last - 1 < length:
            return False
    return True


def rank_count(row):
    """The least number, from 0 on, of walks there with a creel that holds all behind which the row is ranked."""
    pairs = list_of(row)
    count = 0
    for (size, offset), (longer, other) in zip(pairs, pairs[1:]):
        # By the first places that [15] tells, a row is ranked just where the sums of size and offset never
        # fall along its list; each walk adds to every sum the size, and like sizes rise by their offsets.
        if size < longer:
            lack = size + offset - longer - other
            count = max(count, -(-lack // (longer - size)))
    return count
