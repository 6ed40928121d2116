"""What charges cover of a row."""

from armstold.rows import around, within

# For each number of charges where they lie, in twelfths of w and of h.
PLACES = {
    1: ((6, 6),),
    2: ((3, 6), (9, 6)),
    3: ((3, 4), (9, 4), (6, 9)),
    4: ((3, 3), (9, 3), (3, 9), (9, 9)),
    5: ((2, 2), (10, 2), (6, 6), (2, 10), (10, 10)),
    6: ((2, 3), (6, 3), (10, 3), (4, 6), (8, 6), (6, 9)),
}
SIZES = {1: 6, 2: 4, 3: 4, 4: 4, 5: 3, 6: 3}


def root_of(number, start):
    """The greatest whole number whose square is at most the number, and -1 where that's below 0.

    The start is at least the root: from above, each step comes nearer and none goes below it.
    """
    if number < 0:
        return -1
    root = start
    while root * root > number:
        root = (root + number // root) // 2
    return root


def beside(row, a, times, limit):
    """Where times |P| is at most the limit, at a place a."""
    return within(row, times * 24, times * (12 - 2 * a * row.w), limit)


def roundel(row, a, q, r):
    return [beside(row, a, 1, root_of(r * r - q * q, r))]


def annulet(row, a, q, r):
    outer = beside(row, a, 1, root_of(r * r - q * q, r))
    # 4 (P P + Q Q) is below r r where the square of 2 P is at most r r - 4 Q Q - 1.
    inner = beside(row, a, 2, root_of(r * r - 4 * q * q - 1, r))
    return around(outer, inner)


def lozenge(row, a, q, r):
    return [beside(row, a, 3, 3 * r - 2 * abs(q))]


def billet(row, a, q, r):
    return [beside(row, a, 2, r)] if abs(q) <= r else []


def delf(row, a, q, r):
    return [beside(row, a, 1, r)] if abs(q) <= r else []


def crosslet(row, a, q, r):
    if 3 * abs(q) <= r:
        return [beside(row, a, 1, r)]
    return [beside(row, a, 3, r)] if abs(q) <= r else []


COVERS = {
    "roundel": roundel,
    "annulet": annulet,
    "lozenge": lozenge,
    "billet": billet,
    "delf": delf,
    "crosslet": crosslet,
}


def charge_stretches(kind, number, row):
    """What so many charges of a kind cover; their stretches may overlap."""
    r = SIZES[number] * row.w
    stretches = []
    for a, b in PLACES[number]:
        q = 12 * (2 * row.y + 1) - 2 * b * row.h
        stretches.extend(COVERS[kind](row, a, q, r))
    return stretches
