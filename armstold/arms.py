"""The calls."""

from armstold.drawing import drawn_cells
from armstold.reading import CannotStand, read_words
from armstold.rule import count_items, count_offending, depth_of
from armstold.words import words_of
from armstold.writing import written

MOST_BYTES = 65536
LONGEST_SIDE = 1024


def bl_check(text):
    """Answers 0, how many items there are, how many of them offend, how deep arms are; or a refusal alone."""
    if len(text) > MOST_BYTES:
        return [-2]
    try:
        arms = read_words(words_of(text))
    except CannotStand as e:
        return [-3 - e.place]
    return [0, count_items(arms), count_offending(arms), depth_of(arms)]


def bl_write(most, text):
    """Answers how many bytes the text has in its one form, then these; or a refusal alone."""
    if most < 0 or len(text) > MOST_BYTES:
        return [-2]
    words = words_of(text)
    try:
        read_words(words)
    except CannotStand as e:
        return [-3 - e.place]
    row = written(words)
    if len(row) > most:
        return [-1]
    return [len(row)] + row


def bl_draw(wide, high, shield, text):
    """Answers 0, then each cell's tincture, row by row; or a refusal alone."""
    if not 1 <= wide <= LONGEST_SIDE or not 1 <= high <= LONGEST_SIDE or len(text) > MOST_BYTES:
        return [-2]
    try:
        arms = read_words(words_of(text))
    except CannotStand as e:
        return [-3 - e.place]
    return [0] + drawn_cells(arms, wide, high, shield)


def bl_count(wide, high, shield, text):
    """Answers 0, then how many cells of bl_draw's have 0, 1, and so on to 9; or a refusal alone."""
    drawn = bl_draw(wide, high, shield, text)
    if drawn[0] < 0:
        return drawn
    cells = drawn[1:]
    return [0] + [cells.count(tincture) for tincture in range(10)]
