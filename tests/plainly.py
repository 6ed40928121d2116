"""Right texts drawn cell by cell, with the document's formulas as they stand; slow, and nothing of it the program's."""

import re
from math import floor
from fractions import Fraction

TINCTURES = "or argent gules azure sable vert purpure ermine vair".split()
NUMBERS = {"a": 1, "two": 2, "three": 3, "four": 4, "five": 5, "six": 6, "eight": 8, "ten": 10, "twelve": 12}
PLACES = {
    1: ([(6, 6)], 6),
    2: ([(3, 6), (9, 6)], 4),
    3: ([(3, 4), (9, 4), (6, 9)], 4),
    4: ([(3, 3), (9, 3), (3, 9), (9, 9)], 4),
    5: ([(2, 2), (10, 2), (6, 6), (2, 10), (10, 10)], 3),
    6: ([(2, 3), (6, 3), (10, 3), (4, 6), (8, 6), (6, 9)], 3),
}


def tree_of(text):
    words = re.findall(r"[a-z]+|[(),]", text)
    tree = take_arms(words)
    assert not words, text
    return tree


def take_arms(words):
    field = take_field(words)
    items = []
    while words and words[0] == ",":
        words.pop(0)
        number = NUMBERS[words.pop(0)]
        name = words.pop(0)
        if words[0] == "sinister":
            name += " " + words.pop(0)
        if number > 1:
            name = name[:-1]
        items.append((name, number, take_half(words)))
    return field, items


def take_half(words):
    """The number of a tincture, or the tree of arms in brackets."""
    word = words.pop(0)
    if word != "(":
        return TINCTURES.index(word) + 1
    arms = take_arms(words)
    assert words.pop(0) == ")"
    return arms


def take_field(words):
    if words[0] in TINCTURES:
        return ("plain", 0, take_half(words), 0)
    name = words.pop(0)
    number = 0
    if name == "per":
        name = "per " + words.pop(0)
        if words[0] == "sinister":
            name += " " + words.pop(0)
    elif name != "quarterly":
        assert words.pop(0) == "of"
        number = NUMBERS[words.pop(0)]
    first = take_half(words)
    assert words.pop(0) == "and"
    return (name, number, first, take_half(words))


def letters(x, y, w, h):
    U = 2 * x + 1 - w
    V = 2 * y + 1 - h
    return U, V, U * h - V * w, U * h + V * w, 4 * (V * w - abs(U) * h) + w * h


def down(number, whole):
    return floor(Fraction(number, whole))


def is_first(name, n, x, y, w, h):
    U, V, B, C, K = letters(x, y, w, h)
    if name == "per pale":
        return U < 0
    if name == "per fess":
        return V < 0
    if name == "per bend":
        return B > 0
    if name == "per bend sinister":
        return C < 0
    if name == "per chevron":
        return K < 0
    if name == "per saltire":
        return abs(U) * h < abs(V) * w
    if name == "quarterly":
        return (U < 0) == (V < 0)
    if name == "barry":
        piece = down(n * y, h)
    if name == "paly":
        piece = down(n * x, w)
    if name == "bendy":
        piece = down(n * (B + 2 * w * h), 4 * w * h)
    if name == "chequy":
        piece = down(n * x, w) + down(n * y, h)
    if name == "lozengy":
        piece = down(n * (B + 2 * w * h), 4 * w * h) + down(n * (C + 2 * w * h), 4 * w * h)
    return piece % 2 == 0


def covers(name, number, x, y, w, h):
    U, V, B, C, K = letters(x, y, w, h)
    if name == "fess":
        return 3 * abs(V) <= h
    if name == "pale":
        return 3 * abs(U) <= w
    if name == "bend":
        return 4 * abs(B) <= w * h
    if name == "bend sinister":
        return 4 * abs(C) <= w * h
    if name == "chevron":
        return abs(K) <= w * h
    if name == "cross":
        return 5 * abs(U) <= w or 5 * abs(V) <= h
    if name == "saltire":
        return 5 * abs(B) <= w * h or 5 * abs(C) <= w * h
    if name == "chief":
        return 3 * (2 * y + 1) <= 2 * h
    if name == "bordure":
        return any(4 * far < w for far in [2 * x + 1, 2 * (w - x) - 1, 2 * y + 1, 2 * (h - y) - 1])
    places, k = PLACES[number]
    return any(
        charge_covers(name, abs(12 * (2 * x + 1) - 2 * a * w), abs(12 * (2 * y + 1) - 2 * b * h), k * w)
        for a, b in places
    )


def charge_covers(name, P, Q, r):
    if name == "roundel":
        return P * P + Q * Q <= r * r
    if name == "annulet":
        return P * P + Q * Q <= r * r and 4 * (P * P + Q * Q) >= r * r
    if name == "lozenge":
        return 3 * P + 2 * Q <= 3 * r
    if name == "billet":
        return 2 * P <= r and Q <= r
    if name == "delf":
        return P <= r and Q <= r
    if name == "crosslet":
        return (3 * P <= r and Q <= r) or (P <= r and 3 * Q <= r)
    raise KeyError(name)


def fur(tincture, x, y):
    if tincture == 8:
        return 5 if x % 8 == 3 and y % 8 in (3, 4) else 2
    if tincture == 9:
        return 4 if (x // 4 + y // 4) % 2 == 1 else 2
    return tincture


def cell(arms, x, y, w, h):
    (name, n, first, second), items = arms
    for kind, number, tincture in reversed(items):
        if covers(kind, number, x, y, w, h):
            return fur(tincture, x, y)
    half = first if name == "plain" or is_first(name, n, x, y, w, h) else second
    if isinstance(half, int):
        return fur(half, x, y)
    if name != "quarterly":
        return cell(half, x, y, w, h)
    columns = [c for c in range(w) if (c < w // 2) == (x < w // 2)]
    rows = [r for r in range(h) if (r < h // 2) == (y < h // 2)]
    return cell(half, columns.index(x), rows.index(y), len(columns), len(rows))


def drawn(wide, high, shield, text):
    """All cells of a right text, row by row."""
    arms = tree_of(text)
    cells = []
    for y in range(high):
        for x in range(wide):
            U, V, B, C, K = letters(x, y, wide, high)
            out = V > 0 and U * U * high * high + V * V * wide * wide > wide * wide * high * high
            cells.append(0 if shield != 0 and out else cell(arms, x, y, wide, high))
    return cells
