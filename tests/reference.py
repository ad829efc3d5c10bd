"""The document once more, in another way: whole runs over nested words, for small texts alone.

A piece of a run is here a whole run that is broken off: nothing is kept between the pieces. Words are
nested as the text nests them and carried out by functions within functions; lists are walked.
"""

import re
from fractions import Fraction
from math import floor

PLAIN = "() dup drop swap over rot depth + - * / mod < = same pair first rest kind say put cr".split()
SHAPING = {"if": "i", "else": "e", "end": "n", "while": "w", "do": "d", ":": ":", ";": ";", "leave": "l"}
LOWEST, HIGHEST = -2 ** 63, 2 ** 63 - 1
EMPTY = ()


def words_of(text):
    """Pairs of a place and a word."""
    return [(found.start(), found.group()) for found in re.finditer(r"[^ \n]+", text)]


def is_name(word):
    return re.fullmatch(r"[a-z]{1,16}", word) is not None and word not in PLAIN and word not in SHAPING


def is_number(word):
    return re.fullmatch(r"-?[0-9]{1,20}", word) is not None


def is_word(word):
    return (is_name(word) or is_number(word) or word in PLAIN or word in SHAPING
            or re.fullmatch(r"[@!][a-z]", word) is not None)


def goes_on(words):
    """What is left open by the words of a text's beginning, or None if no right text begins so."""
    signs = ""
    for word in words:
        sign = "a" if is_name(word) else SHAPING.get(word, "o")
        if signs.endswith(":"):
            if sign != "a":
                return None
            signs = signs[:-1] + "P"
        elif sign == "l":
            if not signs.startswith("P"):
                return None
        elif sign not in "ao":
            signs += sign
        for closed in ("in", "ien", "wdn", "P;"):
            if signs.endswith(closed):
                signs = signs[:-len(closed)]
        if re.fullmatch(r":|P?(i|ie|w|wd)*", signs) is None:
            return None
    return signs


def fault_of_text(text):
    """The fault and its place, or None: all faults are found, and the first of them taken."""
    words = words_of(text)
    spelled = [word for place, word in words]
    behind = {index for index in range(1, len(words)) if spelled[index - 1] == ":"}
    known = {spelled[index] for index in behind}
    faults = []
    for index, (place, word) in enumerate(words):
        if not is_word(word):
            faults.append((place, 1))
        if is_name(word) and index not in behind and word not in known:
            faults.append((place, 3))
        if is_name(word) and index in behind and any(spelled[k] == word for k in behind if k < index):
            faults.append((place, 4))
        if is_number(word) and not LOWEST <= int(word) <= HIGHEST:
            faults.append((place, 5))
    for index in range(len(words) + 1):
        left = goes_on(spelled[:index])
        if left is None:
            faults.append((words[index - 1][0], 2))
            break
        if index == len(words) and left != "":
            faults.append((len(text), 2))
    if not faults:
        return None
    place, fault = min(faults)
    return fault, place


class Cell:
    def __init__(self, first, rest):
        self.first = first
        self.rest = rest
        # How long it is said as a rest, so that nothing far too long is said.
        self.length = 1 + length_of(first) + (rest.length if isinstance(rest, Cell) else len(said_of_rest(rest)))


def length_of(value):
    return value.length + 1 if isinstance(value, Cell) else len(said_of(value))


class Fault(Exception):
    pass


class Pause(Exception):
    pass


class Leave(Exception):
    pass


def said_of(value):
    if isinstance(value, Cell):
        return "(" + said_of(value.first) + said_of_rest(value.rest) + ")"
    return "()" if value == EMPTY else str(value)


def said_of_rest(value):
    if isinstance(value, Cell):
        return " " + said_of(value.first) + said_of_rest(value.rest)
    return "" if value == EMPTY else " . " + said_of(value)


def are_alike(one, other):
    if isinstance(one, Cell) and isinstance(other, Cell):
        return one is other or are_alike(one.first, other.first) and are_alike(one.rest, other.rest)
    return not isinstance(one, Cell) and not isinstance(other, Cell) and one == other


class Run:
    """A run of a right text, broken off before more than limit words are carried out."""

    def __init__(self, text, limit):
        self.words = words_of(text)
        self.limit = limit
        self.count = 0
        self.under_way = 0
        self.stack = []
        self.variables = {}
        self.output = ""
        self.bodies = {}
        self.fault = None
        program = self.nested(0, ())[0]
        self.stands = 1
        try:
            self.do_all(program)
        except Pause:
            self.stands = 0
        except Fault as fault:
            self.stands = 2
            self.fault = fault.args

    def nested(self, index, until):
        """The words from an index up to one of until, nested; and the index of that."""
        row = []
        while index < len(self.words) and self.words[index][1] not in until:
            word = self.words[index][1]
            start = index
            parts = []
            if word == ":":
                inner, index = self.nested(index + 2, (";",))
                self.bodies[self.words[start + 1][1]] = (inner, index)
            elif word in ("if", "while"):
                while self.words[index][1] != "end":
                    inner, after = self.nested(index + 1, ("else", "do", "end"))
                    parts.append((index, inner))
                    index = after
                parts.append((index, []))
            row.append((start, parts))
            index += 1
        return row, index

    def do_all(self, row):
        for start, parts in row:
            word = self.words[start][1]
            if word == "if":
                self.decide(parts)
            elif word == "while":
                self.repeat(parts)
            else:
                self.carry_out(start)

    def decide(self, parts):
        if self.carry_out(parts[0][0]) != 0:
            self.do_all(parts[0][1])
            self.carry_out(parts[1][0])
        elif len(parts) == 3:
            self.do_all(parts[1][1])
            self.carry_out(parts[2][0])

    def repeat(self, parts):
        while True:
            self.carry_out(parts[0][0])
            self.do_all(parts[0][1])
            if self.carry_out(parts[1][0]) == 0:
                return
            self.do_all(parts[1][1])
            self.carry_out(parts[2][0])

    def carry_out(self, index):
        """Carries out one word, and answers what an if or do has taken."""
        place, word = self.words[index]
        if self.count == self.limit:
            raise Pause()
        stack, output = list(self.stack), self.output
        try:
            if self.count == 3000:
                raise Fault(11)
            taken = self.do(word)
        except Fault as fault:
            self.stack, self.output = stack, output
            if len(fault.args) == 1:
                raise Fault(fault.args[0], place) from None
            raise
        self.count += 1
        if word == "leave":
            raise Leave()
        if is_name(word):
            self.go_through(word)
        return taken

    def go_through(self, name):
        body, last = self.bodies[name]
        self.under_way += 1
        try:
            self.do_all(body)
            self.carry_out(last)
        except Leave:
            pass
        self.under_way -= 1

    def take(self, many, kinds=object):
        if len(self.stack) < many:
            raise Fault(6)
        taken = [self.stack.pop() for k in range(many)][::-1]
        if not all(isinstance(value, kinds) for value in taken):
            raise Fault(7)
        return taken

    def give_number(self, number):
        if not LOWEST <= number <= HIGHEST:
            raise Fault(8)
        self.stack.append(number)

    def say(self, text):
        if len(self.output + text) > 4096:
            raise Fault(12)
        self.output += text

    def do(self, word):
        if is_number(word):
            self.stack.append(int(word))
        elif word[0] == "@":
            self.stack.append(self.variables.get(word[1], 0))
        elif word[0] == "!":
            self.variables[word[1]] = self.take(1)[0]
        elif is_name(word) and self.under_way == 100:
            raise Fault(10)
        elif word in ("if", "do"):
            return self.take(1, int)[0]
        elif word in ("+", "-", "*", "/", "mod", "<"):
            self.reckon(word, *self.take(2, int))
        elif word in ("say", "put", "cr"):
            self.do_say(word)
        elif word in PLAIN:
            self.do_plain(word)
        return None

    def reckon(self, word, a, b):
        if word in ("/", "mod") and b == 0:
            raise Fault(9)
        if word == "+":
            self.give_number(a + b)
        elif word == "-":
            self.give_number(a - b)
        elif word == "*":
            self.give_number(a * b)
        elif word == "/":
            self.give_number(floor(Fraction(a, b)))
        elif word == "mod":
            self.give_number(a - b * floor(Fraction(a, b)))
        else:
            self.give_number(int(a < b))

    def do_say(self, word):
        if word == "cr":
            self.say("\n")
        elif word == "say":
            value = self.take(1)[0]
            if length_of(value) > 4096:
                raise Fault(12)
            self.say(said_of(value))
        else:
            byte = self.take(1, int)[0]
            if not 0 <= byte <= 255:
                raise Fault(8)
            self.say(bytes([byte]).decode("latin-1"))

    def do_plain(self, word):
        moves = {"dup": (1, "00"), "drop": (1, ""), "swap": (2, "10"), "over": (2, "010"), "rot": (3, "120")}
        if word in moves:
            taken = self.take(moves[word][0])
            self.stack.extend(taken[int(place)] for place in moves[word][1])
        elif word == "()":
            self.stack.append(EMPTY)
        elif word == "depth":
            self.stack.append(len(self.stack))
        elif word == "=":
            self.stack.append(int(are_alike(*self.take(2))))
        elif word == "same":
            a, b = self.take(2)
            self.stack.append(int(a is b if isinstance(a, Cell) else are_alike(a, b)))
        elif word == "pair":
            self.stack.append(Cell(*self.take(2)))
        elif word == "kind":
            value = self.take(1)[0]
            self.stack.append(2 if isinstance(value, Cell) else 1 if value == EMPTY else 0)
        else:
            cell = self.take(1, Cell)[0]
            self.stack.append(cell.first if word == "first" else cell.rest)
