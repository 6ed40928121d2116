"""Words and texts that the tests of several calls share."""

TINCTURES = ["or", "argent", "gules", "azure", "sable", "vert", "purpure", "ermine", "vair"]
ORDINARIES = ["fess", "pale", "bend", "bend sinister", "chevron", "cross", "saltire", "chief", "bordure"]
CHARGES = ["roundel", "annulet", "lozenge", "billet", "delf", "crosslet"]
PARTINGS = ["per pale", "per fess", "per bend", "per chevron", "per saltire", "per bend sinister", "quarterly"]
VARIATIONS = ["barry", "paly", "bendy", "chequy", "lozengy"]
NUMBERS_OF_CHARGES = ["two", "three", "four", "five", "six"]
NUMBERS_BEHIND_OF = ["two", "four", "six", "eight", "ten", "twelve"]

# 1 + 496 * 4 + 3 * 5 words.
WORDS_2000 = "or" + ", a fess gules" * 496 + ", a bend sinister argent" * 3

# A text for each kind of place, with the first word there that can't stand, or the text's end.
WRONG = [
    ("", 0),
    (" \n ", 0),
    ("x", 0),
    ("Or", 0),
    ("or\t", 0),
    ("or \x00", 1),
    ("or or", 1),
    ("or )", 1),
    ("or,", 2),
    ("or, fess gules", 2),
    ("or, eight delfs gules", 2),
    ("or, a", 3),
    ("or, a two gules", 3),
    ("or, a delfs gules", 3),
    ("or, two delf gules", 3),
    ("or, a fess", 4),
    ("or, a fess sinister gules", 4),
    ("or, a bend sinister", 5),
    ("or, a fess (gules)", 4),
    ("or, a fess gules a", 5),
    ("per", 1),
    ("per cross or and gules", 1),
    ("per pale", 2),
    ("per pale sinister or and gules", 2),
    ("per pale per", 2),
    ("per pale or", 3),
    ("per pale or gules", 3),
    ("per pale or and", 4),
    ("per pale or and x", 4),
    ("per bend sinister sinister", 3),
    ("quarterly and", 1),
    ("quarterly (", 2),
    ("quarterly ()", 2),
    ("quarterly (or", 3),
    ("quarterly (or and gules", 3),
    ("quarterly (or)", 4),
    ("quarterly (or) and (gules", 7),
    ("quarterly (or) and (gules))", 8),
    ("barry", 1),
    ("barry six", 1),
    ("barry of three or and gules", 2),
    ("barry of six (or) and gules", 3),
    ("barry of six or gules", 4),
    ("barry of six or and (gules)", 5),
    ("barry of six or and gules and", 6),
    ("or" + ", a fess gules" * 500, 2000),
    (WORDS_2000 + " x", 2000),
    (WORDS_2000 + " \x00", 2000),
]


def nested(depth, inner="or"):
    """Arms that are so deep within arms; each ( stands 3 words behind the one before, from word 2 on."""
    return "per pale (" * (depth - 1) + inner + ") and gules" * (depth - 1)


def bytes_of(text):
    return list(text.encode("latin-1"))


# Every form of field and every item, each with some tincture or other.
FIELDS = TINCTURES + [f"{parting} ermine and vair" for parting in PARTINGS] + [
    f"{variation} of {number} vair and sable" for variation in VARIATIONS for number in NUMBERS_BEHIND_OF
]
ITEMS = [f"a {name} gules" for name in ORDINARIES + CHARGES] + [
    f"{number} {charge}s vair" for charge in CHARGES for number in NUMBERS_OF_CHARGES
]


def some_item(source):
    tincture = source.choice(TINCTURES)
    if source.random() < 0.5:
        return f"a {source.choice(ORDINARIES + CHARGES)} {tincture}"
    return f"{source.choice(NUMBERS_OF_CHARGES)} {source.choice(CHARGES)}s {tincture}"


def some_half(source, depth):
    if depth < 6 and source.random() < 0.6:
        return f"({some_arms(source, depth + 1)})"
    return source.choice(TINCTURES)


def some_arms(source, depth=1):
    """A right text, out of a random source that the test has given its seed."""
    field = source.choice(FIELDS)
    if source.random() < 0.6:
        parting = source.choice(PARTINGS + ["quarterly"] * 5)
        field = f"{parting} {some_half(source, depth)} and {some_half(source, depth)}"
    return ", ".join([field] + [some_item(source) for number in range(source.choice([0, 0, 1, 2, 3]))])
