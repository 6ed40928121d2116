"""What arms are made of, once they are read. Tinctures are the numbers 1 to 9."""

PLAIN = "plain"


class Arms:
    """A field, and the list of the items that lie over it."""

    def __init__(self, field, borne):
        self.field = field
        self.borne = borne


class Field:
    """PLAIN with one tincture; or the parting's or variation's name with two halves, each a tincture or Arms.

    The number is that behind of, and 0 where there is none.
    """

    def __init__(self, kind, number, halves):
        self.kind = kind
        self.number = number
        self.halves = halves


class Item:
    """An ordinary, or a number of charges of one kind (named without s)."""

    def __init__(self, kind, number, tincture):
        self.kind = kind
        self.number = number
        self.tincture = tincture
