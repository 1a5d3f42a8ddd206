"""Carriers: walks there and back with a creel, what is carried, and what the creel holds on the way."""

from creelway.errors import BadCreel
from creelway.rows import look_row, mirrored


def look_creel(creel):
    """Refuse a creel's size below 1."""
    if creel < 1:
        raise BadCreel("a creel has a size from 1 on")


def look_walks(walks):
    """Refuse walks, pairs (creel, count), for the first creel below 1."""
    for creel, count in walks:
        look_creel(creel)


def walked(row, creel):
    """The row behind a walk there, from the lesser places to the greater ones."""
    look_row(row)
    look_creel(creel)
    behind = []
    held = 0
    niche = 0
    for place in row:
        # An empty creel changes nothing up to the next stone, so the rest of a gap is leapt over.
        while held > 0 and niche < place:
            behind.append(niche)
            held -= 1
            niche += 1
        if held < creel:
            held += 1
        else:
            behind.append(place)
        niche = place + 1
    return behind + [niche + more for more in range(held)]


def walked_back(row, creel):
    """The row behind a walk back, from the greater places to the lesser ones."""
    return mirrored(walked(mirrored(row), creel))


def carried(row, creel):
    """How many stones go into the creel over the whole walk there."""
    # A stone that was left lies where one lay before, a stone that was carried where none lay.
    return len([place for place in walked(row, creel) if place not in row])


def holding(row, creel, place):
    """How many stones the creel holds in a walk there when the niche at the place has just been passed."""
    behind = walked(row, creel)
    # What lay up to there ahead of the walk and doesn't lie there behind it is in the creel.
    return stones_up_to(row, place) - stones_up_to(behind, place)


def stones_up_to(row, place):
    """How many stones of the row lie at the place or at lesser ones."""
    return len([stone for stone in row if stone <= place])
