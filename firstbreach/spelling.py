"""Spelling: which words the lines of the text of a plan have."""

DIGITS = "0123456789"
LETTERS = "abcdefghijklmnopqrstuvwxyz"
MAX_DIGITS = 4
MAX_NAME = 8
MAX_ENTRY = 3

# For each first word the shapes of the words behind it. A shape is a pair: the kinds of words that have to stand there,
# and the kind of which any number may follow, or "". A kind in small letters is a word itself.
SHAPES = {
    "supply": ((("N", "LIST", "STEP"), "STEP"), (("share", "N", "N"), ""), (("always",), "")),
    "choice": ((("WORD",), "WORD"),),
    "door": ((("WORD",), ""),),
    "guard": ((("WORD",), ""),),
    "task": (((), ""), (("steady",), "")),
    "node": ((("N", "ENTRY"), "ENTRY"),),
    "edge": ((("N", "N", "N"), ""),),
    "taking": ((("LIST",), "WORD"),),
    "queue": (((), "N"),),
}


def wrong_behind(first, words):
    """Returns the number of the first wrong word of a line, or 0, from its first word and the words behind it."""
    shapes = list(SHAPES[first])
    for at, word in enumerate(words):
        shapes = [shape for shape in shapes if takes(shape, at, word)]
        if not shapes:
            return at + 2
    if not any([len(words) >= len(kinds) for kinds, _ in shapes]):
        return len(words) + 2
    return 0


def takes(shape, at, word):
    """Returns whether the shape can have this word at this index."""
    kinds, repeated = shape
    kind = kinds[at] if at < len(kinds) else repeated
    return kind != "" and is_of_kind(kind, word)


def is_of_kind(kind, word):
    """Returns whether the word is of this kind."""
    if kind == "N":
        return is_number(word)
    if kind == "LIST":
        return all([is_number(part) for part in word.split(",")])
    if kind == "STEP":
        parts = word.split(":")
        return len(parts) == 3 and all([is_number(part) for part in parts])
    if kind == "WORD":
        return is_name(word)
    if kind == "ENTRY":
        return word == "-" or are_letters(word, MAX_ENTRY)
    return word == kind


def is_number(word):
    """Returns whether these are 1 to 4 digits without leading zeros."""
    if not (1 <= len(word) <= MAX_DIGITS and all([letter in DIGITS for letter in word])):
        return False
    return word == "0" or word[0] != "0"


def is_name(word):
    """Returns whether these are 1 to 8 letters."""
    return are_letters(word, MAX_NAME)


def are_letters(word, most):
    """Returns whether these are letters, at least one and at most so many."""
    return 1 <= len(word) <= most and all([letter in LETTERS for letter in word])
