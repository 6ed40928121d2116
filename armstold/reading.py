"""Reads words strictly, as arms."""

from armstold.parts import PLAIN, Arms, Field, Item

TINCTURES = ("or", "argent", "gules", "azure", "sable", "vert", "purpure", "ermine", "vair")
PARTINGS = ("pale", "fess", "bend", "chevron", "saltire")
VARIATIONS = ("barry", "paly", "bendy", "chequy", "lozengy")
ORDINARIES = ("fess", "pale", "bend", "chevron", "cross", "saltire", "chief", "bordure")
ONE_CHARGE = ("roundel", "annulet", "lozenge", "billet", "delf", "crosslet")
MORE_CHARGES = ("roundels", "annulets", "lozenges", "billets", "delfs", "crosslets")
NUMBERS = {"two": 2, "three": 3, "four": 4, "five": 5, "six": 6, "eight": 8, "ten": 10, "twelve": 12}
NUMBERS_OF_CHARGES = ("two", "three", "four", "five", "six")
NUMBERS_BEHIND_OF = ("two", "four", "six", "eight", "ten", "twelve")

# The outermost arms are 1 deep.
MOST_DEEP = 6


class CannotStand(Exception):
    """The word at a place can't stand there, or the text can't end there."""

    def __init__(self, place):
        self.place = place


class Reader:
    """Words, and the place of the one that is read next."""

    def __init__(self, words):
        self.words = words
        self.place = 0

    def peek(self):
        """The word read next; behind the last one the empty text, which is no word."""
        if self.place < len(self.words):
            return self.words[self.place]
        return ""

    def take(self, allowed):
        """Reads one word, which must be among those of a tuple."""
        word = self.peek()
        if word not in allowed:
            raise CannotStand(self.place)
        self.place += 1
        return word


def read_tincture(reader):
    return TINCTURES.index(reader.take(TINCTURES)) + 1


def read_name(reader, names):
    """Reads one of the names, where sinister behind bend belongs to the name."""
    name = reader.take(names)
    if name == "bend" and reader.peek() == "sinister":
        return name + " " + reader.take(("sinister",))
    return name


def read_half(reader, depth):
    if reader.peek() == "(" and depth < MOST_DEEP:
        reader.take(("(",))
        arms = read_arms(reader, depth + 1)
        reader.take((")",))
        return arms
    return read_tincture(reader)


def read_parted(reader, depth):
    kind = reader.take(("per", "quarterly"))
    if kind == "per":
        kind = read_name(reader, PARTINGS)
    first = read_half(reader, depth)
    reader.take(("and",))
    second = read_half(reader, depth)
    return Field(kind, 0, [first, second])


def read_varied(reader):
    kind = reader.take(VARIATIONS)
    reader.take(("of",))
    number = NUMBERS[reader.take(NUMBERS_BEHIND_OF)]
    first = read_tincture(reader)
    reader.take(("and",))
    second = read_tincture(reader)
    return Field(kind, number, [first, second])


def read_field(reader, depth):
    word = reader.peek()
    if word in ("per", "quarterly"):
        return read_parted(reader, depth)
    if word in VARIATIONS:
        return read_varied(reader)
    return Field(PLAIN, 0, [read_tincture(reader)])


def read_item(reader):
    word = reader.take(("a",) + NUMBERS_OF_CHARGES)
    if word == "a":
        kind = read_name(reader, ORDINARIES + ONE_CHARGE)
        return Item(kind, 1, read_tincture(reader))
    charges = reader.take(MORE_CHARGES)
    kind = ONE_CHARGE[MORE_CHARGES.index(charges)]
    return Item(kind, NUMBERS[word], read_tincture(reader))


def read_arms(reader, depth):
    field = read_field(reader, depth)
    borne = []
    while reader.peek() == ",":
        reader.take((",",))
        borne.append(read_item(reader))
    return Arms(field, borne)


def read_words(words):
    """The arms that all words of a text tell; raises CannotStand at the first place that is wrong."""
    reader = Reader(words)
    arms = read_arms(reader, 1)
    if reader.place < len(words):
        raise CannotStand(reader.place)
    return arms
