"""The deeds of a house: each tells the roads behind it, by names in the order of building, from those ahead of it."""

from creelway.carriers import look_creel
from creelway.errors import BadName, Full, NoEntry, NoRoad, NotWalk, Taken
from creelway.roads import new_road, row_now, with_entry, with_log
from creelway.rows import look_row
from creelway.words import is_name

MOST_ROADS = 8


def road_named(roads, name):
    """The road of this name."""
    if name not in roads:
        raise NoRoad("no road has this name")
    return roads[name]


def with_road(roads, name, road):
    """The roads with one more, or with another one in place of that of the same name."""
    changed = dict(roads)
    changed[name] = road
    return changed


def built(roads, deed):
    """The roads behind a deed ("build", name, row)."""
    word, name, row = deed
    if not is_name(name):
        raise BadName("a name has 1 to 8 small letters")
    if name in roads:
        raise Taken("another road has this name")
    look_row(row)
    if len(roads) >= MOST_ROADS:
        raise Full(f"a house has at most {MOST_ROADS} roads")
    return with_road(roads, name, new_road(row))


def shut(roads, deed):
    """The roads behind a deed ("shut", name)."""
    word, name = deed
    road_named(roads, name)
    return {other: road for other, road in roads.items() if other != name}


def entered(roads, deed):
    """The roads behind a deed that goes into the log as it is, without the name."""
    word, name, *rest = deed
    return with_road(roads, name, with_entry(road_named(roads, name), (word,) + tuple(rest)))


def laid(roads, deed):
    """The roads behind a deed ("lay", name, other, gap)."""
    word, name, other, gap = deed
    road = road_named(roads, name)
    row = row_now(road_named(roads, other).course)
    return with_road(roads, name, with_entry(road, ("lay", tuple(row), gap)))


def found_late(roads, deed):
    """The roads behind a deed ("late", name, at, creel, count)."""
    word, name, at, creel, count = deed
    road = road_named(roads, name)
    if at < 0 or at > len(road.entries):
        raise NoEntry("the log has no such entry, nor its end there")
    look_creel(creel)
    entries = road.entries[:at] + (("walk", creel, count),) + road.entries[at:]
    return with_road(roads, name, with_log(road, at, entries))


def struck(roads, deed):
    """The roads behind a deed ("strike", name, at)."""
    word, name, at = deed
    road = road_named(roads, name)
    if at < 0 or at >= len(road.entries):
        raise NoEntry("the log has no such entry")
    if road.entries[at][0] != "walk":
        raise NotWalk("the entry is no walk")
    entries = road.entries[:at] + road.entries[at + 1:]
    return with_road(roads, name, with_log(road, at, entries))


DEEDS = {
    "build": built,
    "shut": shut,
    "walk": entered,
    "put": entered,
    "take": entered,
    "mirror": entered,
    "lay": laid,
    "late": found_late,
    "strike": struck,
}


def roads_behind(roads, deed):
    """The roads behind any deed; those handed in stay as they are."""
    act = DEEDS[deed[0]]
    return act(roads, deed)
