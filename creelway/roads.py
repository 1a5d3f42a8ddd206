"""One road: the row with which it was built, its log, and where the log leads to."""

from creelway.carriers import look_creel, walked, walked_back
from creelway.errors import Clash, Laid, NoStone, TooMany
from creelway.far import far
from creelway.joins import behind
from creelway.rows import MOST_STONES, mirrored

FEW_WALKS = 10
REST_APART = 16


class Road:
    """A road as it stands. None is changed once it is made, so a house, its past and its twins may share it.

    Its rests are pairs of a number of entries and the row behind so many of them: the row with which it was built, and
    some of those that had to be reckoned since, from which a changed log is done anew.
    """

    def __init__(self, entries, rests, course):
        self.entries = entries
        self.rests = rests
        self.course = course


class Course:
    """Where a log leads to: a row, counts of walks by creels behind it, and whether what comes of that is mirrored.

    The row itself is reckoned only where it is asked for, so that many walks one behind the other cost no more than
    one.
    """

    def __init__(self, rested, walks, turned):
        self.rested = rested
        self.walks = walks
        self.turned = turned


def new_road(row):
    """A road with this row and an empty log."""
    return Road((), ((0, tuple(row)),), Course(tuple(row), {}, False))


def with_entry(road, entry):
    """The road behind one more entry of its log."""
    course = Course(road.course.rested, dict(road.course.walks), road.course.turned)
    go_on(course, entry)
    entries = road.entries + (entry,)
    if is_rest(road.rests, len(entries), entry):
        return Road(entries, road.rests + ((len(entries), course.rested),), course)
    return Road(entries, road.rests, course)


def with_log(road, at, entries):
    """The road with another log, which is the same as its own ahead of the entry of this number."""
    rests = [(number, row) for number, row in road.rests if number <= at]
    start, rested = rests[-1]
    course = Course(rested, {}, False)
    for number in range(start, len(entries)):
        try:
            go_on(course, entries[number])
        except (Laid, NoStone):
            raise Clash(number) from None
        if is_rest(rests, number + 1, entries[number]):
            rests.append((number + 1, course.rested))
    return Road(entries, tuple(rests), course)


def is_rest(rests, number, entry):
    """Whether so many entries, of which this is the last one, make the next rest."""
    # Each rest keeps a row, so they lie some entries apart; walks and mirrors reckon no row.
    return number >= rests[-1][0] + REST_APART and entry[0] not in ("walk", "mirror")


def go_on(course, entry):
    """Do an entry of a log; one that is refused changes nothing."""
    word = entry[0]
    if word == "walk":
        add_walk(course, entry[1], entry[2])
    elif word == "mirror":
        course.turned = not course.turned
    else:
        course.rested = row_behind(row_now(course), entry)
        course.walks = {}
        course.turned = False


def add_walk(course, creel, count):
    """Count a walk in."""
    look_creel(creel)
    # A creel beyond all stones does what one for all of them does, and in the mirror a walk there is a walk back.
    useful = min(creel, MOST_STONES)
    course.walks[useful] = course.walks.get(useful, 0) + (-count if course.turned else count)


def row_now(course):
    """The row that the course has come to."""
    row = row_behind_walks(course.rested, course.walks)
    return mirrored(row) if course.turned else row


def row_behind_walks(rested, walks):
    """The row behind walks that are told as counts by creels."""
    if sum([abs(count) for count in walks.values()]) > FEW_WALKS:
        return far(rested, list(walks.items()))
    # So few are done sooner one by one.
    row = list(rested)
    for creel, count in walks.items():
        for walk in range(abs(count)):
            row = walked(row, creel) if count > 0 else walked_back(row, creel)
    return row


def row_behind(row, entry):
    """The row behind an entry that puts a stone in, takes one out, or lays another row behind."""
    word = entry[0]
    if word == "put":
        return with_stone(row, entry[1])
    if word == "take":
        return without_stone(row, entry[1])
    return behind(row, entry[1], entry[2])


def with_stone(row, place):
    """The row with a stone put in."""
    if place in row:
        raise Laid("a stone lies there")
    if len(row) >= MOST_STONES:
        raise TooMany(f"a row has at most {MOST_STONES} stones")
    return sorted(row + [place])


def without_stone(row, place):
    """The row with a stone taken out."""
    if place not in row:
        raise NoStone("no stone lies there")
    return [stone for stone in row if stone != place]
