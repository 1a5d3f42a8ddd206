"""The list of a row, one pair of size and offset for each train, and the row of a list."""

from creelway.errors import BadTrains, TooMany
from creelway.rows import MOST_STONES, look_row


def look_trains(trains):
    """Refuse a size below 1, then more than 60 stones in all."""
    for at, (size, offset) in enumerate(trains):
        if size < 1:
            raise BadTrains(at)
    if sum([size for size, offset in trains]) > MOST_STONES:
        raise TooMany(f"a list has at most {MOST_STONES} stones in all")


def mark(trains, size, place):
    """The mark of the size at the place."""
    look_trains(trains)
    return place - crowd(by_size(trains), size)


def by_size(trains):
    """For each size, rising, the offsets of its trains, rising."""
    offsets = {}
    for size, offset in sorted(trains):
        offsets.setdefault(size, []).append(offset)
    return offsets


def crowd(offsets, size):
    """Twice the sum, over all trains, of the lesser one of the size and the train's."""
    return 2 * sum([min(size, other) * len(some) for other, some in offsets.items()])


def crowds(offsets):
    """The crowd of each size that is there."""
    found = {}
    longer = sum([len(some) for some in offsets.values()])
    total = 0
    below = 0
    for size in sorted(offsets):
        # Between two sizes that are there each longer train brings two more for each size.
        total += 2 * longer * (size - below)
        found[size] = total
        longer -= len(offsets[size])
        below = size
    return found


def trains(row):
    """The list of the row: a pair (size, offset) for each train, rising."""
    return list_of(row)


def list_of(row):
    """What `trains` tells, under a name that files with a parameter called `trains` can draw."""
    look_row(row)
    offsets = {}
    for place in row:
        add_stone(offsets, place)
    return [(size, offset) for size in sorted(offsets) for offset in offsets[size]]


def add_stone(offsets, place):
    """Put in a stone at a place beyond all others: the longest train that can takes it up, or a new one comes in."""
    crowded = crowds(offsets)
    # No offset is beyond the mark of its size at the last stone, so of each size the greatest one alone can be ready.
    ready = [size for size, some in offsets.items() if some[-1] == place - 1 - crowded[size]]
    size = max(ready, default=0)
    if size > 0:
        drop_last(offsets, size)
    add_train(offsets, size + 1, place)


def drop_last(offsets, size):
    """Take out the train of this size with the greatest offset."""
    offsets[size].pop()
    if not offsets[size]:
        del offsets[size]


def add_train(offsets, size, place):
    """Put in a train whose offset is the mark of its size at the place: no other one of its size has a greater one."""
    # The mark counts the new train, too.
    offset = place - crowd(offsets, size) - 2 * size
    offsets.setdefault(size, []).append(offset)


def row_of(trains):
    """The row of a list of pairs (size, offset), in whatever order."""
    look_trains(trains)
    offsets = by_size(trains)
    row = []
    while offsets:
        crowded = crowds(offsets)
        # The last stone lies at the last place at which some offset is the mark of its size. When it came, the
        # marks of all lesser sizes went beyond the offsets, so the shortest of the trains there took it up.
        place, shortest = max([(some[-1] + crowded[size], -size) for size, some in offsets.items()])
        size = -shortest
        row.append(place)
        drop_last(offsets, size)
        if size > 1:
            add_train(offsets, size - 1, place - 1)
    return sorted(row)
