"""The list of a row, one pair of size and offset for each train, and the row of a list."""

from creelway.errors import BadTrains, TooMany
from creelway.rows import MOST_STONES, look_row


def look_trains(trains):
    """Refuse a size below 1, then more than 60 stones in all."""
    for at, (size, offset) in enumerate(trains):
        if size < 1:
            raise BadTrains(at)
    if sum([size for size, offset in trains]) > MOST_STONES:
        raise TooMany(f"a list has at most {MOST_STONES} stones in all")


def crowd(trains, size):
    """Twice the sum, over all trains, of the lesser one of the size and the train's."""
    return 2 * sum([min(size, other) for other, offset in trains])


def crowds(trains):
    """The crowd of each size that the list has."""
    return {size: crowd(trains, size) for size in sorted({other for other, offset in trains})}


def mark(trains, size, place):
    """The mark of the size at the place."""
    look_trains(trains)
    return place - crowd(trains, size)


def trains(row):
    """The list of the row: a pair (size, offset) for each train, rising."""
    return list_of(row)


def list_of(row):
    """What `trains` tells, under a name that files with a parameter called `trains` can draw."""
    look_row(row)
    built = []
    for place in row:
        built = with_stone(built, place)
    return sorted(built)


def with_stone(built, place):
    """The list behind one more stone, at a place beyond all stones that it has."""
    crowded = crowds(built)
    rest = list(built)
    # Those of one size that could take the stone up have one offset, so it is the same whichever does.
    ready = [(size, offset) for size, offset in built if offset == place - 1 - crowded[size]]
    if not ready:
        return with_train(rest, 1, place)
    taken = max(ready)
    rest.remove(taken)
    return with_train(rest, taken[0] + 1, place)


def with_train(rest, size, place):
    """The list with one more train of this size, whose offset is the mark of its size at the place."""
    # The mark counts the new train, too.
    return rest + [(size, place - crowd(rest, size) - 2 * size)]


def row_of(trains):
    """The row of a list of pairs (size, offset), in whatever order."""
    look_trains(trains)
    left = [(size, offset) for size, offset in trains]
    row = []
    while left:
        crowded = crowds(left)
        # The last stone lies at the last place at which some offset is the mark of its size. When it came, the
        # marks of all lesser sizes went beyond the offsets, so the shortest of the trains there took it up.
        place, shortest = max([(offset + crowded[size], -size) for size, offset in left])
        size = -shortest
        row.append(place)
        left.remove((size, place - crowded[size]))
        if size > 1:
            left = with_train(left, size - 1, place - 1)
    return sorted(row)
