"""Shapes: whether a text is right, and the program that it is then."""

from sharedlists.faults import NAME_TAKEN, NO_FAULT, NO_WORD, NUMBER_BEYOND, UNKNOWN_NAME, WRONG_SHAPE
from sharedlists.texts import cut, is_name, is_number, is_word, step_of
from sharedlists.things import is_in_range


class Reading:
    """What's known of a text that is read word by word, from the left."""

    def __init__(self, text):
        self.length = len(text)
        self.words = cut(text)
        self.bodies = bodies_by_name(self.words)
        self.names_read = {}
        # The words that wait for another to go with them, each with its index, the innermost last.
        # An else or do waits on top of its if or while.
        self.waiting = []
        # The index at which each word goes on, where it goes elsewhere: of if and do at zero.
        self.targets = list(range(1, len(self.words) + 1))

    def spelling(self, index):
        return self.words[index][1]

    def waits_last(self, spelling):
        """Whether the innermost word that waits is this one."""
        return len(self.waiting) > 0 and self.waiting[-1][0] == spelling

    def wait(self, index):
        """From now on this word waits."""
        self.waiting.append((self.spelling(index), index))

    def waited(self):
        """The index of the innermost word that waited, which waits no more."""
        entry = self.waiting.pop()
        return entry[1]

    def is_behind_colon(self, index):
        return index > 0 and self.spelling(index - 1) == ":"


class Program:
    """The words of a right text: what each does, and its place in the text."""

    def __init__(self, reading):
        self.steps = [step_of(word[1], target) for word, target in zip(reading.words, reading.targets)]
        self.places = [word[0] for word in reading.words]


def bodies_by_name(words):
    """The index of each body's first word, by its name."""
    bodies = {}
    for index in range(1, len(words)):
        if words[index - 1][1] == ":":
            bodies.setdefault(words[index][1], index + 1)
    return bodies


def read_colon(reading, index):
    if len(reading.waiting) > 0:
        return WRONG_SHAPE
    reading.wait(index)
    return NO_FAULT


def read_semicolon(reading, index):
    if not reading.waits_last(":"):
        return WRONG_SHAPE
    reading.targets[reading.waited()] = index + 1
    return NO_FAULT


def read_opening(reading, index):
    reading.wait(index)
    return NO_FAULT


def read_else(reading, index):
    if not reading.waits_last("if"):
        return WRONG_SHAPE
    reading.targets[reading.waiting[-1][1]] = index + 1
    reading.wait(index)
    return NO_FAULT


def read_do(reading, index):
    if not reading.waits_last("while"):
        return WRONG_SHAPE
    reading.wait(index)
    return NO_FAULT


def read_end(reading, index):
    if reading.waits_last("if"):
        reading.targets[reading.waited()] = index + 1
        return NO_FAULT
    if reading.waits_last("else"):
        reading.targets[reading.waited()] = index + 1
        reading.waited()
        return NO_FAULT
    if reading.waits_last("do"):
        reading.targets[reading.waited()] = index + 1
        reading.targets[index] = reading.waited()
        return NO_FAULT
    return WRONG_SHAPE


def read_leave(reading, index):
    # A : waits for its ; below all else, as none stands within anything.
    if len(reading.waiting) == 0 or reading.waiting[0][0] != ":":
        return WRONG_SHAPE
    return NO_FAULT


SHAPING_WORDS = {
    ":": read_colon,
    ";": read_semicolon,
    "if": read_opening,
    "else": read_else,
    "while": read_opening,
    "do": read_do,
    "end": read_end,
    "leave": read_leave,
}


def read_named(reading, index):
    """Reads the word behind a colon; answers its fault."""
    name = reading.spelling(index)
    if not is_name(name):
        return WRONG_SHAPE
    if name in reading.names_read:
        return NAME_TAKEN
    reading.names_read[name] = True
    return NO_FAULT


def read_name(reading, index):
    """Reads a name that isn't behind a colon; answers its fault."""
    name = reading.spelling(index)
    if name not in reading.bodies:
        return UNKNOWN_NAME
    reading.targets[index] = reading.bodies[name]
    return NO_FAULT


def read_word(reading, index):
    """Reads the word at an index; answers its fault, the lowest if it has several."""
    word = reading.spelling(index)
    if not is_word(word):
        return NO_WORD
    if reading.is_behind_colon(index):
        return read_named(reading, index)
    if word in SHAPING_WORDS:
        reader = SHAPING_WORDS[word]
        return reader(reading, index)
    if is_name(word):
        return read_name(reading, index)
    if is_number(word) and not is_in_range(int(word)):
        return NUMBER_BEYOND
    return NO_FAULT


def read_all(reading):
    """Reads a text's words; answers its fault and the fault's place, NO_FAULT and 0 if it's right."""
    for index in range(len(reading.words)):
        fault = read_word(reading, index)
        if fault != NO_FAULT:
            return (fault, reading.words[index][0])
    # A : that nothing is behind waits, too.
    if len(reading.waiting) > 0:
        return (WRONG_SHAPE, reading.length)
    return (NO_FAULT, 0)
