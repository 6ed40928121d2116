"""Rows of a rectangle's cells, and stretches of them: pairs of a first column and of the first one behind.

There may be hundreds of items over a million cells: so what an item covers is found as stretches, not cell by cell.
"""

NOWHERE = (0, 0)


class Row:
    """Row y of a rectangle of w by h cells; v is what the document calls V."""

    def __init__(self, w, h, y):
        self.w = w
        self.h = h
        self.y = y
        self.v = 2 * y + 1 - h


def within(row, step, offset, limit):
    """The columns x where |step x + offset| is at most the limit, which may be below 0; the step is above 0."""
    first = max(0, -((limit + offset) // step))
    behind = min(row.w, (limit - offset) // step + 1)
    if first < behind:
        return (first, behind)
    return NOWHERE


def around(outer, inner):
    """What is left of a stretch without one that lies in it."""
    if inner == NOWHERE:
        return [outer]
    return [(outer[0], inner[0]), (inner[1], outer[1])]


def painted(cells, paint, stretches):
    """A row's cells, but those of another row in the stretches."""
    for first, behind in stretches:
        if first < behind:
            cells = cells[:first] + paint[first:behind] + cells[behind:]
    return cells
