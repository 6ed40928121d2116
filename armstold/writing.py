"""Words written in one form."""

BLANK = 32
NO_BLANK_BEFORE = (",", ")")
NO_BLANK_BEHIND = ("(",)


def blank_between(word, following):
    return word not in NO_BLANK_BEHIND and following not in NO_BLANK_BEFORE


def written(words):
    """The bytes of words, which must all be of small letters or one of the signs."""
    row = []
    for place, word in enumerate(words):
        if place > 0 and blank_between(words[place - 1], word):
            row.append(BLANK)
        row.extend([ord(letter) for letter in word])
    return row
