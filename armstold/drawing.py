"""Arms drawn cell by cell, a row at a time."""

from armstold.charges import charge_stretches
from armstold.fields import in_first, u_values
from armstold.furs import tincture_cells
from armstold.ordinaries import is_ordinary, ordinary_stretches
from armstold.parts import PLAIN, Arms
from armstold.rows import Row, painted

OUTSIDE = 0


def half_cells(half, row):
    if isinstance(half, Arms):
        return arms_cells(half, row)
    return tincture_cells(half, row)


def two_halves_cells(field, row):
    first = half_cells(field.halves[0], row)
    second = half_cells(field.halves[1], row)
    chosen = in_first(field, row)
    return [first[x] if chosen[x] else second[x] for x in range(row.w)]


def quarter_row(row, left, right):
    """A row as one of its quarter, which has the columns from left on, without right."""
    middle = row.h // 2
    if row.y < middle:
        return Row(right - left, middle, row.y)
    return Row(right - left, row.h - middle, row.y - middle)


def quarter_cells(half, row, left, right):
    if isinstance(half, Arms):
        return arms_cells(half, quarter_row(row, left, right))
    # A tincture is no arms of its own: its fur is counted from where the whole rectangle begins.
    return tincture_cells(half, row)[left:right]


def quarterly_cells(field, row):
    # U is below 0 just in the columns below w / 2, rounded down; V is so in the rows.
    middle = row.w // 2
    place = 0 if row.y < row.h // 2 else 1
    left = quarter_cells(field.halves[place], row, 0, middle)
    right = quarter_cells(field.halves[1 - place], row, middle, row.w)
    return left + right


def field_cells(field, row):
    if field.kind == PLAIN:
        return tincture_cells(field.halves[0], row)
    if field.kind == "quarterly":
        return quarterly_cells(field, row)
    return two_halves_cells(field, row)


def item_stretches(item, row):
    if is_ordinary(item.kind):
        return ordinary_stretches(item.kind, row)
    return charge_stretches(item.kind, item.number, row)


def arms_cells(arms, row):
    """The cells of one row, where the arms fill the row's rectangle."""
    cells = field_cells(arms.field, row)
    for item in arms.borne:
        paint = tincture_cells(item.tincture, row)
        cells = painted(cells, paint, item_stretches(item, row))
    return cells


def on_shield(cells, row):
    """A row's cells, but those outside of the shield, which are below its middle."""
    if row.v <= 0:
        return cells
    hh = row.h * row.h
    ww = row.w * row.w
    vv = row.v * row.v
    inside = [u * u * hh + vv * ww <= ww * hh for u in u_values(row)]
    return [cell if kept else OUTSIDE for cell, kept in zip(cells, inside)]


def drawn_cells(arms, wide, high, shield):
    """All cells, row by row."""
    drawn = []
    for y in range(high):
        row = Row(wide, high, y)
        cells = arms_cells(arms, row)
        if shield != 0:
            cells = on_shield(cells, row)
        drawn.extend(cells)
    return drawn
