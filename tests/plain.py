"""What the tests share: plain walks niche by niche, rows to try them on, and a bound on the time."""

import random
import signal
import unittest

FAR = 10 ** 40


class SoonCase(unittest.TestCase):
    """A test whose answers are to be there soon: one that goes through all niches fails."""

    def setUp(self):
        signal.signal(signal.SIGALRM, self.too_late)
        signal.alarm(10)
        self.addCleanup(signal.alarm, 0)

    def too_late(self, *_):
        raise AssertionError("not told soon")


def plain_walk(row, creel):
    """A walk there niche by niche: the row behind it, what was carried, and what was held behind each niche."""
    stones = set(row)
    behind, count, held, holds = [], 0, 0, {}
    if row:
        for niche in range(row[0] - 2, row[-1] + len(row) + 3):
            if niche in stones:
                if held < creel:
                    held += 1
                    count += 1
                else:
                    behind.append(niche)
            elif held:
                held -= 1
                behind.append(niche)
            holds[niche] = held
    assert held == 0
    return behind, count, holds


def plain_walk_back(row, creel):
    """The row behind a walk back, niche by niche."""
    stones = set(row)
    behind, held = [], 0
    if row:
        for niche in range(row[-1] + 2, row[0] - len(row) - 3, -1):
            if niche in stones:
                if held < creel:
                    held += 1
                else:
                    behind.append(niche)
            elif held:
                held -= 1
                behind.append(niche)
    assert held == 0
    return sorted(behind)


def plain_closing(row, place):
    """The closing niche of the stone at the place, counted niche by niche from the stone on."""
    stones = set(row)
    niche, full, bare = place, 1, 0
    while full != bare:
        niche += 1
        if niche in stones:
            full += 1
        else:
            bare += 1
    return niche


def small_rows():
    """All rows within eight niches, on both sides of 0."""
    return [[at - 4 for at in range(8) if mask >> at & 1] for mask in range(256)]


def many_rows(count, seed=1):
    """Rows of up to 60 stones with small gaps; the same ones in each run."""
    source = random.Random(seed)
    rows = [list(range(-7, 53)), list(range(0, 120, 2)), list(range(-90, 90, 3))]
    while len(rows) < count:
        stones = source.choice((1, 2, 5, 10, 20, 40, 59, 60, source.randint(1, 60)))
        widest = source.choice((1, 2, 3, 6, 12))
        likely = source.choice((20, 50, 80))
        place = source.randint(-200, 100)
        row = []
        while len(row) < stones:
            row.append(place)
            place += 1
            if source.randrange(100) < likely:
                place += source.randint(1, widest)
        rows.append(row)
    return rows


def creels_for(row):
    """Creels to walk a row with."""
    stones = len(row)
    near = [creel for creel in (stones - 1, stones, stones + 1) if creel > 0]
    return sorted(set(list(range(1, 10)) + [15, 30, 45, 58, 59, 60, 61, 70, 10 ** 50] + near))


def far_parts(seed=2):
    """Lists of small rows, each to be laid far behind the one ahead of it, at most 60 stones in all."""
    source = random.Random(seed)
    few = [row for row in many_rows(200, seed) if len(row) <= 20]
    lists = [[[0], [0]], [[-3, -2, -1], [4]], [[5], [-1, 0, 1]]]
    return lists + [[source.choice(few) for part in range(source.choice((2, 3)))] for trial in range(60)]


def far_shifts(parts):
    """By how much each of the parts is moved, so that a gap of some FAR lies between each two."""
    return [at * FAR - FAR for at in range(len(parts))]


def joined(parts, shifts):
    """The parts, each moved, as one row."""
    return [place + by for part, by in zip(parts, shifts) for place in part]
