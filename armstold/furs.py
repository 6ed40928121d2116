"""Rows of cells that are all of one tincture, with furs drawn."""

ARGENT = 2
AZURE = 4
SABLE = 5
ERMINE = 8
VAIR = 9


def eight_cells(tincture, y):
    """The first eight cells of row y; those behind repeat them, with either fur too."""
    if tincture == ERMINE and y % 8 in (3, 4):
        return [ARGENT] * 3 + [SABLE] + [ARGENT] * 4
    if tincture == ERMINE:
        return [ARGENT] * 8
    if tincture == VAIR and y // 4 % 2 == 1:
        return [AZURE] * 4 + [ARGENT] * 4
    if tincture == VAIR:
        return [ARGENT] * 4 + [AZURE] * 4
    return [tincture] * 8


def tincture_cells(tincture, row):
    times = row.w // 8 + 1
    return (eight_cells(tincture, row.y) * times)[:row.w]
