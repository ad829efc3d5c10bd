"""Texts: the words of a text, and what sort of word each is."""

from sharedlists.words import ACTIONS

BLANKS = (32, 10)
SIGNS = "!()*+-/0123456789:;<=@abcdefghijklmnopqrstuvwxyz"
# It stands for every byte that no right word has, and so it's no sign of SIGNS.
NO_SIGN = "?"

MOST_DIGITS = 20
MOST_LETTERS = 16


def cut(text):
    """The words of a text, each with its place: pairs of a place and a spelling."""
    signs = signs_of_bytes()
    words = []
    start = 0
    for place, byte in enumerate(text + [BLANKS[0]]):
        if byte in BLANKS:
            if start < place:
                words.append((start, spelled(text[start:place], signs)))
            start = place + 1
    return words


def signs_of_bytes():
    """The sign of each byte that right words have."""
    signs = {}
    for sign in SIGNS:
        signs[ord(sign)] = sign
    return signs


def spelled(row, signs):
    """A word's bytes as a text."""
    return "".join([signs.get(byte, NO_SIGN) for byte in row])


def is_number(word):
    """Whether a word is a number, be it a value or beyond."""
    digits = word[1:] if word.startswith("-") else word
    return digits.isdigit() and len(digits) <= MOST_DIGITS


def is_variable(word):
    """Whether a word is one for a variable."""
    return len(word) == 2 and word[0] in "@!" and word[1].isalpha()


def is_name(word):
    """Whether a word is a name."""
    return word.isalpha() and len(word) <= MOST_LETTERS and word not in ACTIONS


def is_word(word):
    """Whether what's spelled is a word at all."""
    return word in ACTIONS or is_number(word) or is_name(word) or is_variable(word)


def step_of(word, target):
    """What a right word does: a key of ACTIONS, and what's settled for it, target where it goes on."""
    if is_number(word):
        return ("a number", int(word))
    if is_variable(word):
        return (word[0] + " variable", ord(word[1]) - ord("a"))
    if is_name(word):
        return ("a name", target)
    return (word, target)
