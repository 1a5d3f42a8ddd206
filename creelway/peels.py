"""Peeled rows and their rounds, the sizes of the trains, and their heads and tails."""

from creelway.carriers import carried
from creelway.rows import stretches


def peeled(row):
    """The row without the last stone of each stretch and the empty niche behind it, pushed together."""
    lasts = [last for first, last in stretches(row)]
    stays = []
    ahead = 0
    for place in row:
        if place == lasts[ahead]:
            ahead += 1
        else:
            stays.append(place - 2 * ahead)
    return stays


def rounds(row):
    """The numbers of stretches found, peeling by peeling, till no stone is left."""
    found = []
    rest = row
    while rest:
        found.append(len(stretches(rest)))
        rest = peeled(rest)
    return found


def sizes_by_rounds(row):
    """The sizes of the trains, rising, told by the rounds."""
    return sizes_by_counts(rounds(row))


def sizes_by_loads(row):
    """The sizes of the trains, rising, told by what creels of 1, 2, 3 and so on carry."""
    counts = []
    load = carried(row, 1)
    # Each train that is at least as long as the creel adds one stone to what the next lesser one carries.
    while load > sum(counts):
        counts.append(load - sum(counts))
        load = carried(row, len(counts) + 1)
    return sizes_by_counts(counts)


def sizes_by_counts(counts):
    """The sizes, rising, told by how many of them are at least 1, at least 2 and so on."""
    sizes = []
    for size, many in enumerate(counts, start=1):
        longer = counts[size] if size < len(counts) else 0
        sizes.extend([size] * (many - longer))
    return sizes


def heads(row):
    """For each train a pair of its heads and its tails, by rising size, then in the order of these pairs."""
    runs = road_runs(row)
    pairs = []
    while len(runs) > 1:
        at = found_run(runs)
        size = run_length(runs[at - 1])
        ahead = cut_run(runs[at - 1], size)[0]
        found, rest = cut_run(runs[at], size)
        # Every second run has stones, beginning with the one of number 1.
        pairs.append((tuple(ahead), tuple(found)) if at % 2 == 0 else (tuple(found), tuple(ahead)))
        # What is left of the run that was found is of the same kind as the second run ahead of it.
        runs = runs[:at - 2] + [runs[at - 2] + rest] + runs[at + 1:]
    return sorted(pairs, key=lambda pair: (len(pair[0]), pair))


def road_runs(row):
    """The runs of the road from the left, empty ones and ones with stones by turns, each a list of pieces."""
    # Of the two runs without end as much is kept as makes the first one longer than any run with stones
    # and gives the last one a niche for each stone: no train ever reaches beyond that.
    runs = []
    niche = min(row, default=0) - len(row) - 1
    for first, last in stretches(row):
        runs.append([(niche, first - 1)])
        runs.append([(first, last)])
        niche = last + 1
    runs.append([(niche, niche + len(row) - 1)])
    return runs


def found_run(runs):
    """The number of the first run that is at least as long as the one ahead of it."""
    at = 1
    while run_length(runs[at]) < run_length(runs[at - 1]):
        at += 1
    return at


def run_length(run):
    """How many niches the pieces of a run have."""
    return sum([last - first + 1 for first, last in run])


def cut_run(run, many):
    """The first niches of a run, so many, and the pieces that are left of it."""
    niches = []
    rest = []
    for first, last in run:
        taken = min(last - first + 1, many - len(niches))
        niches.extend(list(range(first, first + taken)))
        if first + taken <= last:
            rest.append((first + taken, last))
    return niches, rest
