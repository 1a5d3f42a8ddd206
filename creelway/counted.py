"""Sober rows: how many there are with told sizes, and their numbers."""

from creelway.errors import BadNumber, BadSizes, TooMany
from creelway.rows import MOST_STONES, look_row
from creelway.trains import list_of, row_of

MOST_NICHES = 200


def look_niches(niches):
    """Refuse a number of niches that isn't 0 to 200."""
    if niches < 0 or niches > MOST_NICHES:
        raise BadNumber(f"the number of niches is 0 to {MOST_NICHES}")


def look_sizes(sizes):
    """Refuse a size below 1, then more than 60 stones in all."""
    for at, size in enumerate(sizes):
        if size < 1:
            raise BadSizes(at)
    if sum(sizes) > MOST_STONES:
        raise TooMany(f"the sizes have at most {MOST_STONES} stones in all")


def how_many(niches, sizes):
    """The number of sober rows with these sizes."""
    look_niches(niches)
    look_sizes(sizes)
    many = 1
    for size, room in rooms(niches, sizes):
        many *= choices(sizes.count(size), room)
    return many


def rooms(niches, sizes):
    """For each size that is there, rising, a pair of it and its room."""
    return [(size, niches - 2 * sum([min(size, other) for other in sizes])) for size in sorted(set(sizes))]


def choices(many, room):
    """In how many ways so many numbers from 0 to the room are chosen, the same one as often as one likes."""
    if room < 0:
        return 0
    ways = 1
    for taken in range(1, many + 1):
        # Behind each step it is the number of ways for as many as were taken, so that nothing is left over.
        ways = ways * (room + taken) // taken
    return ways


def row_numbered(niches, sizes, number):
    """The sober row of this number, from 0, among those with these sizes."""
    many = how_many(niches, sizes)
    if number < 0 or number >= many:
        raise BadNumber("no sober row has this number")
    pairs = []
    rest = number
    for size, room in rooms(niches, sizes):
        count = sizes.count(size)
        # The lesser sizes stand first in a list, so they are what the number's order goes by first.
        many //= choices(count, room)
        chosen, rest = divmod(rest, many)
        pairs.extend([(size, offset) for offset in offsets_numbered(count, room, chosen)])
    return row_of(pairs)


def offsets_numbered(many, room, number):
    """Rising offsets from 0 to the room, so many, of this number in their order."""
    offsets = []
    least = 0
    rest = number
    while len(offsets) < many:
        # So many ways begin with the least one; they come ahead of all that begin with a greater one.
        ways = choices(many - len(offsets) - 1, room - least)
        if rest < ways:
            offsets.append(least)
        else:
            rest -= ways
            least += 1
    return offsets


def number_of(niches, row):
    """The number, from 0, of a sober row among those with its sizes."""
    look_row(row)
    look_niches(niches)
    pairs = list_of(row)
    number = 0
    sizes = [size for size, offset in pairs]
    for size, room in rooms(niches, sizes):
        offsets = [offset for other, offset in pairs if other == size]
        if offsets[0] < 0 or offsets[-1] > room:
            raise BadNumber("the row isn't sober")
        number = number * choices(len(offsets), room) + number_of_offsets(offsets, room)
    return number


def number_of_offsets(offsets, room):
    """The number of rising offsets from 0 to the room among all of as many, in their order."""
    number = 0
    least = 0
    for at, offset in enumerate(offsets):
        for lesser in range(least, offset):
            number += choices(len(offsets) - at - 1, room - lesser)
        least = offset
    return number
