"""Promise 1 on many texts, each one word off a right one, held to the document's grammar as rows of symbols.

The rows are gone through as a set of all that may still come, so nothing here is shared with the program's reading.
"""

import unittest

from armstold.arms import bl_check

TINCTURES = "or argent gules azure sable vert purpure ermine vair".split()
PARTINGS = "pale fess bend chevron saltire".split()
VARIATIONS = "barry paly bendy chequy lozengy".split()
ORDINARIES = "fess pale bend chevron cross saltire chief bordure".split()
CHARGES = "roundels annulets lozenges billets delfs crosslets".split()
WORDS = sorted(
    set(TINCTURES + PARTINGS + VARIATIONS + ORDINARIES + CHARGES)
    | {charge[:-1] for charge in CHARGES}
    | set("per sinister quarterly of and a two three four five six eight ten twelve ( ) , x or-or".split())
)

TERMINALS = {
    "TINCTURE": set(TINCTURES),
    "PARTING": set(PARTINGS),
    "VARIATION": set(VARIATIONS),
    "ORDINARY": set(ORDINARIES),
    "CHARGE": {charge[:-1] for charge in CHARGES},
    "CHARGES": set(CHARGES),
    "MANY": {"two", "three", "four", "five", "six"},
    "EVEN": {"two", "four", "six", "eight", "ten", "twelve"},
}


def rows_of(symbol):
    """What a symbol may stand for, or None if it is for one word."""
    if symbol == "rest":
        return [(), (",", "item", "rest")]
    if symbol == "item":
        return [
            ("a", "ORDINARY", "TINCTURE"),
            ("a", "bend", "sinister", "TINCTURE"),
            ("a", "CHARGE", "TINCTURE"),
            ("MANY", "CHARGES", "TINCTURE"),
        ]
    if isinstance(symbol, str):
        return None
    name, depth = symbol
    half = ("half", depth)
    if name == "arms":
        return [(("field", depth), "rest")]
    if name == "half":
        within = [("(", ("arms", depth + 1), ")")] if depth < 6 else []
        return [("TINCTURE",)] + within
    return [
        ("TINCTURE",),
        ("per", "PARTING", half, "and", half),
        ("per", "bend", "sinister", half, "and", half),
        ("quarterly", half, "and", half),
        ("VARIATION", "of", "EVEN", "TINCTURE", "and", "TINCTURE"),
    ]


def opened(rows):
    """All rows that begin with one word, or are empty."""
    done = set()
    waiting = list(rows)
    while waiting:
        row = waiting.pop()
        choices = rows_of(row[0]) if row else None
        if choices is None:
            done.add(row)
        else:
            waiting.extend(choice + row[1:] for choice in choices)
    return done


def first_wrong(words):
    rows = opened([(("arms", 1),)])
    for place, word in enumerate(words):
        rows = opened(row[1:] for row in rows if row and word in TERMINALS.get(row[0], {row[0]}))
        if not rows:
            return place
    return None if () in rows else len(words)


def sort_of(tincture):
    if tincture not in TINCTURES or tincture in ("ermine", "vair"):
        return None
    return "metal" if tincture in ("or", "argent") else "colour"


def tally(words):
    """The three numbers of right words, from where commas and brackets stand."""
    grounds = [sort_of(words[0])]
    offending = 0
    deepest = 1
    for place, word in enumerate(words):
        if word == "(":
            grounds.append(sort_of(words[place + 1]))
            deepest = max(deepest, len(grounds))
        elif word == ")":
            grounds.pop()
        elif word == ",":
            item = words[place + 1:]
            tincture = next(later for later in item if later in TINCTURES)
            never = item[1] in ("chief", "bordure")
            if not never and grounds[-1] is not None and grounds[-1] == sort_of(tincture):
                offending += 1
    return [words.count(","), offending, deepest]


def expected(words):
    wrong = first_wrong(words)
    return [0] + tally(words) if wrong is None else [-3 - wrong]


SAMPLES = [
    "or",
    "gules , a bend sinister azure , three crosslets or",
    "argent , a roundel or , a chief or , two delfs vert",
    "per bend sinister or and gules , a bordure vair",
    "per bend ( or , a fess argent ) and sable",
    "quarterly ( gules , a pale vert ) and ( lozengy of ten or and azure )",
    "barry of six or and gules , a cross or",
    "per pale ( per fess ( or ) and ( quarterly or and vert , a delf or ) , a saltire or ) and ermine , a bend or",
    "per pale ( " * 4 + "per chevron or and ( vert , six annulets gules )" + " ) and or" * 4,
    "per pale ( " * 5 + "quarterly or and gules" + " ) and or" * 5,
]


class Changed(unittest.TestCase):
    def held(self, words):
        self.assertEqual(bl_check(list(" ".join(words).encode())), expected(words), words)

    def test_the_samples_are_right(self):
        for sample in SAMPLES:
            self.assertIsNone(first_wrong(sample.split()))
            self.held(sample.split())

    def test_each_word_replaced_by_each(self):
        for sample in SAMPLES:
            words = sample.split()
            for place in range(len(words)):
                for word in WORDS:
                    self.held(words[:place] + [word] + words[place + 1:])

    def test_each_word_put_in_anywhere(self):
        for sample in SAMPLES:
            words = sample.split()
            for place in range(len(words) + 1):
                for word in WORDS:
                    self.held(words[:place] + [word] + words[place:])

    def test_each_word_and_each_pair_left_out(self):
        for sample in SAMPLES:
            words = sample.split()
            for place in range(len(words)):
                self.held(words[:place] + words[place + 1:])
                self.held(words[:place] + words[place + 2:])

    def test_each_half_replaced_by_each_sample(self):
        for outer in SAMPLES:
            words = outer.split()
            for place, word in enumerate(words):
                if word in TINCTURES:
                    for inner in SAMPLES:
                        self.held(words[:place] + ["("] + inner.split() + [")"] + words[place + 1:])

    def test_each_sample_cut_short(self):
        for sample in SAMPLES:
            words = sample.split()
            for end in range(len(words)):
                self.held(words[:end])


if __name__ == "__main__":
    unittest.main()
