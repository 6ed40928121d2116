"""The calls."""

from armstold.reading import CannotStand, read_text
from armstold.rule import count_items, count_offending, depth_of

MOST_BYTES = 65536


def bl_check(text):
    """Answers 0, how many items there are, how many of them offend, how deep arms are; or a refusal alone."""
    if len(text) > MOST_BYTES:
        return [-2]
    try:
        arms = read_text(text)
    except CannotStand as e:
        return [-3 - e.place]
    return [0, count_items(arms), count_offending(arms), depth_of(arms)]
