"""A row laid behind another one."""

from creelway.errors import Bare, TooMany, TooNear
from creelway.rows import MOST_STONES, look_row, moved


def behind(one, other, gap):
    """Both rows as one, the other one moved so that so many empty niches lie between the two."""
    look_row(one)
    look_row(other)
    if not one or not other:
        raise Bare("both rows have stones where one is laid behind the other")
    if len(one) + len(other) > MOST_STONES:
        raise TooMany(f"both rows together have at most {MOST_STONES} stones")
    if gap < len(other):
        raise TooNear("the gap is at least as wide as the row that is laid behind has stones")
    return list(one) + moved(other, one[-1] + gap + 1 - other[0])
