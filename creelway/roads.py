"""One road: the row with which it was built, its log, and where the log leads to."""

from creelway.carriers import look_creel, walked, walked_back
from creelway.errors import Clash, Laid, NoStone, TooMany
from creelway.far import far
from creelway.joins import behind
from creelway.rows import MOST_STONES, mirrored

FEW_WALKS = 10


class Road:
    """A road as it stands. None is changed once it is made, so a house, its past and its twins may share it."""

    def __init__(self, first, entries, course):
        self.first = first
        self.entries = entries
        self.course = course


class Course:
    """Where a log leads to: a row at rest, counts of walks by creels since then, and whether all that is mirrored.

    The row itself is reckoned only where it is asked for, so that many walks one behind the other cost no more than
    one.
    """

    def __init__(self, rested, walks, turned):
        self.rested = rested
        self.walks = walks
        self.turned = turned


def new_road(row):
    """A road with this row and an empty log."""
    return Road(tuple(row), (), Course(tuple(row), {}, False))


def with_entry(road, entry):
    """The road behind one more entry of its log."""
    course = Course(road.course.rested, dict(road.course.walks), road.course.turned)
    go_on(course, entry)
    return Road(road.first, road.entries + (entry,), course)


def with_log(road, entries):
    """The road with another log, which is done in its order from the row with which the road was built."""
    course = Course(road.first, {}, False)
    for at, entry in enumerate(entries):
        try:
            go_on(course, entry)
        except (Laid, NoStone):
            raise Clash(at) from None
    return Road(road.first, entries, course)


def go_on(course, entry):
    """Do an entry of a log; one that is refused changes nothing."""
    word = entry[0]
    if word == "walk":
        add_walk(course, entry[1], entry[2])
    elif word == "mirror":
        course.turned = not course.turned
    else:
        course.rested = row_behind(row_now(course), entry)
        course.walks = {}
        course.turned = False


def add_walk(course, creel, count):
    """Count a walk in."""
    look_creel(creel)
    # A creel beyond all stones does what one for all of them does, and in the mirror a walk there is a walk back.
    useful = min(creel, MOST_STONES)
    course.walks[useful] = course.walks.get(useful, 0) + (-count if course.turned else count)


def row_now(course):
    """The row that the course has come to."""
    row = row_behind_walks(course.rested, course.walks)
    return mirrored(row) if course.turned else row


def row_behind_walks(rested, walks):
    """The row behind walks that are told as counts by creels."""
    if sum([abs(count) for count in walks.values()]) > FEW_WALKS:
        return far(rested, list(walks.items()))
    # So few are done sooner one by one.
    row = list(rested)
    for creel, count in walks.items():
        for walk in range(abs(count)):
            row = walked(row, creel) if count > 0 else walked_back(row, creel)
    return row


def row_behind(row, entry):
    """The row behind an entry that puts a stone in, takes one out, or lays another row behind."""
    word = entry[0]
    if word == "put":
        return with_stone(row, entry[1])
    if word == "take":
        return without_stone(row, entry[1])
    return behind(row, entry[1], entry[2])


def with_stone(row, place):
    """The row with a stone put in."""
    if place in row:
        raise Laid("a stone lies there")
    if len(row) >= MOST_STONES:
        raise TooMany(f"a row has at most {MOST_STONES} stones")
    return sorted(row + [place])


def without_stone(row, place):
    """The row with a stone taken out."""
    if place not in row:
        raise NoStone("no stone lies there")
    return [stone for stone in row if stone != place]
