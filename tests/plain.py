"""What the tests share: walks, peelings and markings step by step, rows and lists to try, and a bound on the time."""

import functools
import itertools
import random
import signal
import unittest

FAR = 10 ** 40
END = 10 ** 60 - 1
WRONG_WALKS = (
    [(0, 1)], [(-1, 1)], [(-FAR, 1)], [(0, 0)], [(0, -5)], [(1, 1), (0, 1)], [(0, 1), (1, 1)],
    [(2, 3), (-2, 0), (2, 3)], [(1, FAR)] * 199 + [(0, FAR)],
)

DEED_WORDS = (
    "build", "shut", "walk", "walk", "walk", "put", "put", "take", "take", "mirror", "lay", "lay", "late", "late",
    "late", "strike", "strike",
)


class SoonCase(unittest.TestCase):
    """A test whose answers are to be there soon: one that goes through all niches fails."""

    def setUp(self):
        signal.signal(signal.SIGALRM, self.too_late)
        signal.alarm(10)
        self.addCleanup(signal.alarm, 0)

    def too_late(self, *_):
        raise AssertionError("not told soon")


def plain_walk(row, creel):
    """A walk there niche by niche: the row behind it, what was carried, and what was held behind each niche."""
    stones = set(row)
    behind, count, held, holds = [], 0, 0, {}
    if row:
        for niche in range(row[0] - 2, row[-1] + len(row) + 3):
            if niche in stones:
                if held < creel:
                    held += 1
                    count += 1
                else:
                    behind.append(niche)
            elif held:
                held -= 1
                behind.append(niche)
            holds[niche] = held
    assert held == 0
    return behind, count, holds


def plain_walk_back(row, creel):
    """The row behind a walk back, niche by niche."""
    stones = set(row)
    behind, held = [], 0
    if row:
        for niche in range(row[-1] + 2, row[0] - len(row) - 3, -1):
            if niche in stones:
                if held < creel:
                    held += 1
                else:
                    behind.append(niche)
            elif held:
                held -= 1
                behind.append(niche)
    assert held == 0
    return sorted(behind)


def plain_closing(row, place):
    """The closing niche of the stone at the place, counted niche by niche from the stone on."""
    stones = set(row)
    niche, full, bare = place, 1, 0
    while full != bare:
        niche += 1
        if niche in stones:
            full += 1
        else:
            bare += 1
    return niche


def plain_peel(row):
    """The row peeled: the niches that stay are put side by side, from one ahead of the stones on."""
    stones = set(row)
    lasts = {place for place in row if place + 1 not in stones}
    road = range(row[0] - 1, row[-1] + 2) if row else []
    stay = [niche for niche in road if niche not in lasts and niche - 1 not in lasts]
    return [row[0] - 1 + at for at, niche in enumerate(stay) if niche in stones]


def plain_rounds(row):
    """The numbers of last stones, peeling by peeling."""
    counts = []
    while row:
        counts.append(len([place for place in row if place + 1 not in row]))
        row = plain_peel(row)
    return counts


def plain_sizes(counts):
    """The sizes of which so many are at least 1, so many at least 2 and so on."""
    return sorted(sum(many > train for many in counts) for train in range(counts[0] if counts else 0))


def plain_heads(row):
    """Heads and tails of each train, by runs of niches that are listed one by one."""
    pairs = []
    road = [(niche, niche in row) for niche in range(row[0] - 70, row[-1] + 130)] if row else []
    while any(stone for niche, stone in road):
        runs = [list(group) for stone, group in itertools.groupby(road, key=lambda thing: thing[1])]
        lengths = [len(run) for run in runs]
        lengths[0] = lengths[-1] = float("inf")
        at = min(at for at in range(1, len(runs)) if lengths[at] >= lengths[at - 1])
        out = runs[at - 1] + runs[at][:lengths[at - 1]]
        pairs.append([tuple(sorted(niche for niche, stone in out if stone is kind)) for kind in (True, False)])
        road = [thing for thing in road if thing not in out]
    return sorted([tuple(pair) for pair in pairs], key=lambda pair: (len(pair[0]), pair))


def plain_mark(trains, size, place):
    """The mark of a size at a place, train by train."""
    for train in trains:
        place -= 2 * min(size, train[0])
    return place


def plain_trains(row):
    """The list of a row, stone by stone."""
    return list(plain_trains_once(tuple(row)))


@functools.lru_cache(maxsize=None)
def plain_trains_once(row):
    """The list of a row, kept since the same row is often asked for."""
    built = []
    for place in row:
        ready = [train for train in built if train[1] == plain_mark(built, train[0], place - 1)]
        if ready:
            train = max(ready, key=lambda ending: ending[0])
        else:
            train = [0, None]
            built.append(train)
        train[0] += 1
        train[1] = plain_mark(built, train[0], place)
    return tuple(sorted(tuple(train) for train in built))


def plain_behind(row, walks):
    """The row behind walks, each of them niche by niche."""
    for creel, count in walks:
        for walk in range(abs(count)):
            row = plain_walk(row, creel)[0] if count > 0 else plain_walk_back(row, creel)
    return row


def plain_added(some, walks):
    """The list behind walks, walk by walk and train by train; the counts may be great."""
    for creel, count in walks:
        some = [(size, offset + count * min(creel, size)) for size, offset in some]
    return sorted(some)


def plain_ranked(row):
    """Whether a row is ranked, by the lengths of its runs of stones and of the empty ones between."""
    road = [niche in row for niche in range(row[0], row[-1] + 1)] if row else []
    lengths = [len(list(group)) for stone, group in itertools.groupby(road)]
    full, bare = lengths[::2], lengths[1::2]
    return full == sorted(full) and all(empty >= left for left, empty in zip(full, bare))


def plain_rank_count(row):
    """Walks there with a creel that holds all, one by one, till the row is ranked."""
    count = 0
    while not plain_ranked(row):
        row = plain_walk(row, len(row))[0]
        count += 1
    return count


def offsets_of(row, size):
    """The offsets of the trains of this size, rising."""
    return [offset for other, offset in plain_trains(row) if other == size]


def sizes_of(row):
    """The sizes of the trains, rising."""
    return [size for size, offset in plain_trains(row)]


def is_equally_far(one, other):
    """Whether each of the one lies equally far from the same one of the other."""
    return len({later - offset for offset, later in zip(one, other)}) <= 1


def plain_kin(one, other):
    """Whether two rows are kin, by their lists."""
    return sizes_of(one) == sizes_of(other) and all(
        is_equally_far(offsets_of(one, size), offsets_of(other, size)) for size in set(sizes_of(one))
    )


def small_rows():
    """All rows within eight niches, on both sides of 0."""
    return [[at - 4 for at in range(8) if mask >> at & 1] for mask in range(256)]


def many_rows(count, seed=1):
    """Rows of up to 60 stones with small gaps; the same ones in each run."""
    source = random.Random(seed)
    rows = [list(range(-7, 53)), list(range(0, 120, 2)), list(range(-90, 90, 3))]
    while len(rows) < count:
        stones = source.choice((1, 2, 5, 10, 20, 40, 59, 60, source.randint(1, 60)))
        widest = source.choice((1, 2, 3, 6, 12))
        likely = source.choice((20, 50, 80))
        place = source.randint(-200, 100)
        row = []
        while len(row) < stones:
            row.append(place)
            place += 1
            if source.randrange(100) < likely:
                place += source.randint(1, widest)
        rows.append(row)
    return rows


def small_lists():
    """All lists of at most 5 stones, with offsets near 0, each once and rising."""
    trains = [(size, offset) for size in range(1, 6) for offset in range(-2, 3)]
    lists = []
    for many in range(6):
        lists += [list(some) for some in itertools.combinations_with_replacement(trains, many)]
    return [some for some in lists if sum(size for size, offset in some) <= 5]


def many_lists(count, seed=3):
    """Lists of up to 60 stones in any order, with offsets near and far, of any sign, and with alike trains."""
    source = random.Random(seed)
    lists = [[(60, 0)], [(60, -FAR)], [(1, 0)] * 60, [(1, FAR)] * 60, [(30, 1), (30, 1)], [(59, 4), (1, 10 ** 50)]]
    while len(lists) < count:
        stones = source.choice((1, 2, 5, 10, 20, 40, 59, 60, source.randint(1, 60)))
        longest = source.choice((1, 2, 4, 10, 60))
        widest = source.choice((0, 1, 5, 40, FAR, END))
        some = []
        while stones:
            size = source.randint(1, min(stones, longest))
            stones -= size
            some.append((size, source.randint(-widest, widest)))
        source.shuffle(some)
        lists.append(some)
    return lists


def many_walks(count, greatest, seed=4):
    """Lists of walks with counts up to so many, there and back."""
    source = random.Random(seed)
    creels = (1, 2, 3, 4, 5, 8, 13, 30, 59, 60, 61, 10 ** 50)
    lists = [[], [(1, 0)], [(3, greatest)], [(3, -greatest)], [(2, greatest), (2, -greatest)]]
    while len(lists) < count:
        many = source.randint(1, 5)
        lists.append([(source.choice(creels), source.randint(-greatest, greatest)) for walk in range(many)])
    return lists


def creels_for(row):
    """Creels to walk a row with."""
    stones = len(row)
    near = [creel for creel in (stones - 1, stones, stones + 1) if creel > 0]
    return sorted(set(list(range(1, 10)) + [15, 30, 45, 58, 59, 60, 61, 70, 10 ** 50] + near))


def far_parts(seed=2):
    """Lists of small rows, each to be laid far behind the one ahead of it, at most 60 stones in all."""
    source = random.Random(seed)
    few = [row for row in many_rows(200, seed) if len(row) <= 20]
    lists = [[[0], [0]], [[-3, -2, -1], [4]], [[5], [-1, 0, 1]]]
    return lists + [[source.choice(few) for part in range(source.choice((2, 3)))] for trial in range(60)]


def far_shifts(parts):
    """By how much each of the parts is moved, so that a gap of some FAR lies between each two."""
    return [at * FAR - FAR for at in range(len(parts))]


def joined(parts, shifts):
    """The parts, each moved, as one row."""
    return [place + by for part, by in zip(parts, shifts) for place in part]


def sixty():
    """A row of 60 stones, none of them neighbours."""
    return list(range(-90, 90, 3))


def wrong_rows():
    """Pairs of a row and the number of its first wrong place."""
    pairs = [([5, 5], 1), ([5, 4], 1), ([5, 1, 2, 3], 1), ([0, 10, 5, 7], 2), ([-FAR, FAR, FAR], 2)]
    pairs += [([3, 2, 1], 1), ([0, 0, 0], 1), ([0, 1, 1, 0], 2), ([FAR, -FAR], 1), ([FAR + 1, FAR], 1)]
    for at in (1, 2, 29, 30, 58, 59):
        for less in (0, 1, 2, 500, FAR):
            row = sixty()
            row[at] = row[at - 1] - less
            pairs.append((row, at))
    for at, later in ((1, 59), (1, 2), (5, 40), (30, 31), (58, 59)):
        for less in (0, 1, 500):
            row = sixty()
            row[at] = row[at - 1] - less
            row[later] = row[later - 1] - less
            pairs.append((row, at))
    return pairs


def long_rows():
    """Lists of more than 60 places, with and without a wrong place."""
    early, late = list(range(61)), list(range(61))
    early[1] = early[0]
    late[60] = -5
    return [list(range(61)), list(range(-31, 30)), list(range(200)), early, late, [7] * 61, list(range(61, 0, -1))]


def plain_log_row(first, log):
    """The row behind a log, entry by entry and niche by niche, or the number of the first entry that can't be done."""
    row = list(first)
    for at, entry in enumerate(log):
        if entry[0] == "walk":
            row = plain_behind(row, [entry[1:]])
        elif entry[0] == "mirror":
            row = sorted(-place for place in row)
        elif entry[0] == "lay":
            row = row + [place + row[-1] + entry[2] + 1 - entry[1][0] for place in entry[1]]
        elif (entry[1] in row) is (entry[0] == "put"):
            return at
        else:
            row = sorted(set(row) ^ {entry[1]})
    return row


def plain_roads(deeds):
    """The roads behind deeds that can all be done, one by one: for each name a pair of its first row and its log."""
    roads = {}
    for word, name, *rest in deeds:
        if word == "build":
            roads[name] = (rest[0], [])
        elif word == "shut":
            del roads[name]
        elif word == "late":
            roads[name][1].insert(rest[0], ("walk", *rest[1:]))
        elif word == "strike":
            roads[name][1].pop(rest[0])
        elif word == "lay":
            roads[name][1].append(("lay", tuple(plain_log_row(*roads[rest[0]])), rest[1]))
        else:
            roads[name][1].append((word, *rest))
    return roads


def plain_refusal(roads, deed):
    """What refuses a deed on these roads, in the order that the document tells: a class's name, or None."""
    word, name, *rest = deed
    if word == "build":
        return plain_build_refusal(roads, name, rest[0])
    if name not in roads or word == "lay" and rest[0] not in roads:
        return "NoRoad"
    first, log = roads[name]
    if word == "walk":
        return "BadCreel" if rest[0] < 1 else None
    if word in ("late", "strike"):
        return plain_log_refusal(first, log, word, rest)
    row = plain_log_row(first, log)
    if word == "put":
        return "Laid" if rest[0] in row else "TooMany" if len(row) == 60 else None
    if word == "take":
        return None if rest[0] in row else "NoStone"
    if word == "lay":
        other = plain_log_row(*roads[rest[0]])
        if not row or not other:
            return "Bare"
        return "TooMany" if len(row) + len(other) > 60 else "TooNear" if rest[1] < len(other) else None
    return None


def plain_build_refusal(roads, name, row):
    if not 1 <= len(name) <= 8 or any(sign not in "abcdefghijklmnopqrstuvwxyz" for sign in name):
        return "BadName"
    if name in roads:
        return "Taken"
    if len(row) > 60:
        return "TooMany"
    if list(row) != sorted(set(row)):
        return "BadRow"
    return "Full" if len(roads) == 8 else None


def plain_log_refusal(first, log, word, rest):
    if rest[0] not in range(len(log) + (word == "late")):
        return "NoEntry"
    if word == "late":
        if rest[1] < 1:
            return "BadCreel"
        log = log[:rest[0]] + [("walk", *rest[1:])] + log[rest[0]:]
    else:
        if log[rest[0]][0] != "walk":
            return "NotWalk"
        log = log[:rest[0]] + log[rest[0] + 1:]
    return "Clash" if isinstance(plain_log_row(first, log), int) else None


def all_of(house):
    """All that a house can be asked."""
    names = house.roads()
    rows, logs = [house.row(name) for name in names], [house.log(name) for name in names]
    return names, rows, logs, house.deeds(), house.undone()


def any_deed(source, roads, names="abcdef"):
    """A deed on roads with these names and few stones, that may be refused."""
    name, other = source.choice(names), source.choice(names)
    word = source.choice(DEED_WORDS) if name in roads or source.random() < 0.3 else "build"
    if source.random() < 0.02:
        name = source.choice(("", "A", "abcdefghi", "a b", "zz"))
    if word in ("shut", "mirror"):
        return (word, name)
    if word == "build":
        row = sorted(source.sample(range(-4, 8), source.randint(0, 5)))
        return (word, name, tuple(row[::-1] if source.random() < 0.1 else row))
    if word == "lay":
        stones = plain_log_row(*roads.get(other, ((), [])))
        return (word, name, other, len(stones) + source.randint(-2, 3))
    creel, count = source.choice((1, 2, 3, 4, 5, 60, 61, 0)), source.randint(-3, 3)
    if word == "walk":
        return (word, name, creel, count)
    first, log = roads.get(name, ((), []))
    if word in ("late", "strike"):
        at = source.randint(-1, len(log) + 1)
        return (word, name, at, creel, count) if word == "late" else (word, name, at)
    stones = plain_log_row(first, log) or [0]
    return (word, name, source.choice(stones + [source.randint(-8, 12)]))


def many_deeds(count, seed, names="abcdef"):
    """Deeds that can all be done one behind the other, the same ones in each run."""
    source = random.Random(seed)
    deeds = []
    while len(deeds) < count:
        roads = plain_roads(deeds)
        deed = any_deed(source, roads, names)
        if deed[0] != "shut" and plain_refusal(roads, deed) is None:
            deeds.append(deed)
    return deeds
