"""The words of a text: rows of small letters, and the signs ( ) , each by itself."""

LETTERS = "abcdefghijklmnopqrstuvwxyz"
BLANKS = (10, 32)
SIGNS = {40: "(", 41: ")", 44: ","}
MOST_WORDS = 2000

# Stands in a word for each byte that can't stand: so the word is kept as one, and is like none that can.
OTHER = "?"


def letter_of(byte):
    """The small letter that a byte is, or OTHER."""
    if 97 <= byte <= 122:
        return LETTERS[byte - 97]
    return OTHER


def split_words(text):
    """All words of a row of bytes, in their order."""
    words = []
    letters = []
    for byte in text:
        if byte not in BLANKS and byte not in SIGNS:
            letters.append(letter_of(byte))
            continue
        if letters:
            words.append("".join(letters))
            letters = []
        if byte in SIGNS:
            words.append(SIGNS[byte])
    if letters:
        words.append("".join(letters))
    return words


def words_of(text):
    """The words of a text; the first one too many is there as a word that can't stand, without those behind it."""
    words = split_words(text)
    if len(words) > MOST_WORDS:
        return words[:MOST_WORDS] + [OTHER]
    return words
