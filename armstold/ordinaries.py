"""What ordinaries cover of a row."""

from armstold.rows import around, within


def between(row, times, offset, limit):
    """Where |times U + offset| is at most the limit."""
    return within(row, 2 * times, times * (1 - row.w) + offset, limit)


def along_bend(row, times):
    """Where times |B| is at most w h."""
    return between(row, times * row.h, -times * row.v * row.w, row.w * row.h)


def along_bend_sinister(row, times):
    """Where times |C| is at most w h."""
    return between(row, times * row.h, times * row.v * row.w, row.w * row.h)


def all_if(row, covered):
    return [(0, row.w)] if covered else []


def fess(row):
    return all_if(row, 3 * abs(row.v) <= row.h)


def pale(row):
    return [between(row, 3, 0, row.w)]


def bend(row):
    return [along_bend(row, 4)]


def bend_sinister(row):
    return [along_bend_sinister(row, 4)]


def chevron(row):
    # K is at most w h where 4 |U| h is at least 4 V w, and at least -w h where it is at most 4 V w + 2 w h.
    lowest = 4 * row.v * row.w
    outer = between(row, 4 * row.h, 0, lowest + 2 * row.w * row.h)
    inner = between(row, 4 * row.h, 0, lowest - 1)
    return around(outer, inner)


def cross(row):
    return all_if(row, 5 * abs(row.v) <= row.h) + [between(row, 5, 0, row.w)]


def saltire(row):
    return [along_bend(row, 5), along_bend_sinister(row, 5)]


def chief(row):
    return all_if(row, 3 * (2 * row.y + 1) <= 2 * row.h)


def bordure(row):
    if 4 * (2 * row.y + 1) < row.w or 4 * (2 * (row.h - row.y) - 1) < row.w:
        return [(0, row.w)]
    # 2 x + 1 is w + U, and 2 (w - x) - 1 is w - U: 4 times neither is below w where 4 |U| is at most 3 w.
    return around((0, row.w), between(row, 4, 0, 3 * row.w))


COVERS = {
    "fess": fess,
    "pale": pale,
    "bend": bend,
    "bend sinister": bend_sinister,
    "chevron": chevron,
    "cross": cross,
    "saltire": saltire,
    "chief": chief,
    "bordure": bordure,
}


def is_ordinary(kind):
    return kind in COVERS


def ordinary_stretches(kind, row):
    return COVERS[kind](row)
