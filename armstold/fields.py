"""Which cells of a row have the first half, or tincture, of a field that is parted or varied."""


def u_values(row):
    """U of each cell."""
    return list(range(1 - row.w, row.w, 2))


def b_values(row):
    """B of each cell."""
    h = row.h
    vw = row.v * row.w
    return [u * h - vw for u in u_values(row)]


def c_values(row):
    """C of each cell."""
    h = row.h
    vw = row.v * row.w
    return [u * h + vw for u in u_values(row)]


def k_values(row):
    """K of each cell."""
    h = row.h
    vw = row.v * row.w
    area = row.w * row.h
    return [4 * (vw - abs(u) * h) + area for u in u_values(row)]


def per_pale(row):
    return [u < 0 for u in u_values(row)]


def per_fess(row):
    return [row.v < 0] * row.w


def per_bend(row):
    return [b > 0 for b in b_values(row)]


def per_bend_sinister(row):
    return [c < 0 for c in c_values(row)]


def per_chevron(row):
    return [k < 0 for k in k_values(row)]


def per_saltire(row):
    h = row.h
    vw = abs(row.v) * row.w
    return [abs(u) * h < vw for u in u_values(row)]


PARTED = {
    "pale": per_pale,
    "fess": per_fess,
    "bend": per_bend,
    "bend sinister": per_bend_sinister,
    "chevron": per_chevron,
    "saltire": per_saltire,
}


def slanting(n, values, row):
    """Of which of n slanting pieces each cell is, from its B or from its C."""
    area = row.w * row.h
    return [n * (value + 2 * area) // (4 * area) for value in values]


def barry(n, row):
    return [n * row.y // row.h] * row.w


def paly(n, row):
    return [n * x // row.w for x in range(row.w)]


def bendy(n, row):
    return slanting(n, b_values(row), row)


def chequy(n, row):
    return [one + other for one, other in zip(paly(n, row), barry(n, row))]


def lozengy(n, row):
    return [one + other for one, other in zip(bendy(n, row), slanting(n, c_values(row), row))]


VARIED = {
    "barry": barry,
    "paly": paly,
    "bendy": bendy,
    "chequy": chequy,
    "lozengy": lozengy,
}


def in_first(field, row):
    """For each cell whether it has the first; quarterly and plain fields are not for here."""
    if field.kind in VARIED:
        pieces = VARIED[field.kind](field.number, row)
        return [piece % 2 == 0 for piece in pieces]
    return PARTED[field.kind](row)
