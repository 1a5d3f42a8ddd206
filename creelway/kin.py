"""Rows that walks lead to one another, and walks tidied and told apart."""

from creelway.carriers import look_walks
from creelway.errors import BadNumber
from creelway.far import gain
from creelway.rows import MOST_STONES
from creelway.trains import by_size, list_of


def kin(one, other):
    """Walks that lead from the one to the other, or a size by which the two are no kin."""
    starts = by_size(list_of(one))
    ends = by_size(list_of(other))
    for size in sorted(starts) + sorted(ends):
        if len(starts.get(size, [])) != len(ends.get(size, [])):
            return ("sizes", size)
    gains = {}
    for size, offsets in starts.items():
        gains[size] = ends[size][0] - offsets[0]
        if [offset + gains[size] for offset in offsets] != ends[size]:
            return ("apart", size)
    return ("walks", walks_of(gains))


def walks_of(gains):
    """Walks, each creel once and rising, that add to the offsets of each size what is told for it."""
    greatest = max(gains, default=0)
    # Sizes that neither row has may gain anything: as much as the next lesser one keeps the walks few.
    steps = [0]
    for size in range(1, greatest + 1):
        steps.append(gains.get(size, steps[-1]))
    steps.append(steps[-1])
    # Up to its creel a walk adds one more for each size and then no more, so that its count is the bend there.
    counts = [(creel, 2 * steps[creel] - steps[creel - 1] - steps[creel + 1]) for creel in range(1, greatest + 1)]
    return [(creel, count) for creel, count in counts if count != 0]


def look_stones(stones):
    """Refuse a number of stones that isn't 1 to 60."""
    if stones < 1 or stones > MOST_STONES:
        raise BadNumber(f"the number of stones is 1 to {MOST_STONES}")


def tidied(walks, stones):
    """The walks, each creel once and rising, that do the same to all rows of so many stones or fewer."""
    look_stones(stones)
    look_walks(walks)
    sums = {}
    for creel, count in walks:
        useful = min(creel, stones)
        sums[useful] = sums.get(useful, 0) + count
    return sorted([(creel, count) for creel, count in sums.items() if count != 0])


def parting(one, other, stones):
    """A row of one stretch that two lists of walks lead to unlike rows, or None if there is none of so many stones."""
    look_stones(stones)
    look_walks(one)
    look_walks(other)
    for length in range(1, stones + 1):
        # A stretch is one train, so that walks move it by what they add to its offset.
        if gain(one, length) != gain(other, length):
            return list(range(1, length + 1))
    return None
