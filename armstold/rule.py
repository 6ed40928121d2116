"""The old rule of colours, and what there is to count in arms and the arms within them."""

from armstold.parts import PLAIN, Arms

METALS = (1, 2)
COLOURS = (3, 4, 5, 6, 7)
NEVER_OFFENDING = ("chief", "bordure")


def offends(item, field):
    """Whether an item is a metal on a metal or a colour on a colour."""
    if field.kind != PLAIN or item.kind in NEVER_OFFENDING:
        return False
    ground = field.halves[0]
    if item.tincture in METALS:
        return ground in METALS
    return item.tincture in COLOURS and ground in COLOURS


def arms_within(arms):
    """The arms that stand straight within others, as halves of their field."""
    return [half for half in arms.field.halves if isinstance(half, Arms)]


def count_items(arms):
    return len(arms.borne) + sum([count_items(inner) for inner in arms_within(arms)])


def count_offending(arms):
    own = len([item for item in arms.borne if offends(item, arms.field)])
    return own + sum([count_offending(inner) for inner in arms_within(arms)])


def depth_of(arms):
    """How deep arms are within arms: 1 where none is."""
    return 1 + max([depth_of(inner) for inner in arms_within(arms)], default=0)
