"""Rows of stones: looking at them, their stretches, mirroring, moving, and the closing niches."""

from creelway.errors import BadRow, TooMany

MOST_STONES = 60


def look_row(row):
    """Refuse what is no row: more than 60 places, or a place that isn't above the one ahead of it."""
    if len(row) > MOST_STONES:
        raise TooMany(f"a row has at most {MOST_STONES} places")
    for at in range(1, len(row)):
        if row[at] <= row[at - 1]:
            raise BadRow(at)


def stretches(row):
    """The runs of neighbouring stones, as long as can be, as pairs (first, last), rising."""
    look_row(row)
    pairs = []
    for place in row:
        if pairs and pairs[-1][1] == place - 1:
            pairs[-1] = (pairs[-1][0], place)
        else:
            pairs.append((place, place))
    return pairs


def mirrored(row):
    """The row with a stone at -p for each stone at p."""
    look_row(row)
    return [-place for place in reversed(row)]


def moved(row, by):
    """The row with each stone so many niches further."""
    look_row(row)
    return [place + by for place in row]


def closings(row):
    """For each stone, rising, a pair of its place and its closing niche."""
    look_row(row)
    pairs = []
    waiting = []
    niche = 0
    for place in row:
        # An empty niche closes the nearest stone that still waits; once none waits the rest of a gap
        # closes nothing, so that a gap of any width takes no more steps than there are stones.
        while waiting and niche < place:
            pairs.append((waiting.pop(), niche))
            niche += 1
        waiting.append(place)
        niche = place + 1
    while waiting:
        pairs.append((waiting.pop(), niche))
        niche += 1
    return sorted(pairs)
