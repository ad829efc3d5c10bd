"""The document once more, in another way: whole runs over nested words, for small texts alone.

A piece of a run is here a whole run that is broken off: nothing is kept between the pieces. Words are
nested as the text nests them and carried out by functions within functions; lists are walked.
"""

import re
from fractions import Fraction
from functools import lru_cache
from math import floor

PLAIN = "() dup drop swap over rot depth + - * / mod < = same pair first rest kind say put cr".split()
SHAPING = {"if": "i", "else": "e", "end": "n", "while": "w", "do": "d", ":": ":", ";": ";", "leave": "l"}
LOWEST, HIGHEST = -2 ** 63, 2 ** 63 - 1
EMPTY = ()


def words_of(text):
    """Pairs of a place and a word."""
    return [(found.start(), found.group()) for found in re.finditer(r"[^ \n]+", text)]


def is_name(word):
    return re.fullmatch(r"[a-z]{1,16}", word) is not None and word not in PLAIN and word not in SHAPING


def is_number(word):
    return re.fullmatch(r"-?[0-9]{1,20}", word) is not None


def is_word(word):
    return (is_name(word) or is_number(word) or word in PLAIN or word in SHAPING
            or re.fullmatch(r"[@!][a-z]", word) is not None)


def goes_on(words):
    """What is left open by the words of a text's beginning, or None if no right text begins so."""
    signs = ""
    for word in words:
        sign = "a" if is_name(word) else SHAPING.get(word, "o")
        if signs.endswith(":"):
            if sign != "a":
                return None
            signs = signs[:-1] + "P"
        elif sign == "l":
            if not signs.startswith("P"):
                return None
        elif sign not in "ao":
            signs += sign
        for closed in ("in", "ien", "wdn", "P;"):
            if signs.endswith(closed):
                signs = signs[:-len(closed)]
        if re.fullmatch(r":|P?(i|ie|w|wd)*", signs) is None:
            return None
    return signs


def fault_of_text(text):
    """The fault and its place, or None: all faults are found, and the first of them taken."""
    words = words_of(text)
    spelled = [word for place, word in words]
    behind = {index for index in range(1, len(words)) if spelled[index - 1] == ":"}
    known = {spelled[index] for index in behind}
    faults = []
    for index, (place, word) in enumerate(words):
        if not is_word(word):
            faults.append((place, 1))
        if is_name(word) and index not in behind and word not in known:
            faults.append((place, 3))
        if is_name(word) and index in behind and any(spelled[k] == word for k in behind if k < index):
            faults.append((place, 4))
        if is_number(word) and not LOWEST <= int(word) <= HIGHEST:
            faults.append((place, 5))
    for index in range(len(words) + 1):
        left = goes_on(spelled[:index])
        if left is None:
            faults.append((words[index - 1][0], 2))
            break
        if index == len(words) and left != "":
            faults.append((len(text), 2))
    if not faults:
        return None
    place, fault = min(faults)
    return fault, place


class Cell:
    def __init__(self, first, rest):
        self.first = first
        self.rest = rest
        # How long it is said as a rest, so that nothing far too long is said.
        self.length = 1 + length_of(first) + (rest.length if isinstance(rest, Cell) else len(said_of_rest(rest)))


def length_of(value):
    return value.length + 1 if isinstance(value, Cell) else len(said_of(value))


class Fault(Exception):
    pass


class Pause(Exception):
    pass


class Leave(Exception):
    pass


def said_of(value):
    if isinstance(value, Cell):
        return "(" + said_of(value.first) + said_of_rest(value.rest) + ")"
    return "()" if value == EMPTY else str(value)


def said_of_rest(value):
    if isinstance(value, Cell):
        return " " + said_of(value.first) + said_of_rest(value.rest)
    return "" if value == EMPTY else " . " + said_of(value)


def are_alike(one, other, known=None):
    known = {} if known is None else known
    if isinstance(one, Cell) and isinstance(other, Cell):
        asked = (id(one), id(other))
        if asked not in known:
            known[asked] = one is other or (are_alike(one.first, other.first, known)
                                            and are_alike(one.rest, other.rest, known))
        return known[asked]
    return not isinstance(one, Cell) and not isinstance(other, Cell) and one == other


def are_same(one, other):
    return one is other if isinstance(one, Cell) else are_alike(one, other)


def cells_behind(values):
    """The cells that come from values by firsts and rests, by what tells one from another."""
    found = {}
    left = list(values)
    while left:
        value = left.pop()
        if isinstance(value, Cell) and id(value) not in found:
            found[id(value)] = value
            left += [value.first, value.rest]
    return found


class Run:
    """A run of a right text, broken off before more than limit words are carried out."""

    def __init__(self, text, limit):
        self.words = words_of(text)
        self.limit = limit
        self.count = 0
        self.under_way = 0
        self.stack = []
        self.variables = {}
        self.output = ""
        self.bodies = {}
        self.fault = None
        self.made = 0
        self.moments = [0]
        # The place of the word that the run is broken off at, or at fault with, and 1.
        self.following = 0
        program = self.nested(0, ())[0]
        self.stands = 1
        try:
            self.do_all(program)
        except Pause:
            self.stands = 0
        except Fault as fault:
            self.stands = 2
            self.fault = fault.args

    def nested(self, index, until):
        """The words from an index up to one of until, nested; and the index of that."""
        row = []
        while index < len(self.words) and self.words[index][1] not in until:
            word = self.words[index][1]
            start = index
            parts = []
            if word == ":":
                inner, index = self.nested(index + 2, (";",))
                self.bodies[self.words[start + 1][1]] = (inner, index)
            elif word in ("if", "while"):
                while self.words[index][1] != "end":
                    inner, after = self.nested(index + 1, ("else", "do", "end"))
                    parts.append((index, inner))
                    index = after
                parts.append((index, []))
            row.append((start, parts))
            index += 1
        return row, index

    def do_all(self, row):
        for start, parts in row:
            word = self.words[start][1]
            if word == "if":
                self.decide(parts)
            elif word == "while":
                self.repeat(parts)
            else:
                self.carry_out(start)

    def decide(self, parts):
        if self.carry_out(parts[0][0]) != 0:
            self.do_all(parts[0][1])
            self.carry_out(parts[1][0])
        elif len(parts) == 3:
            self.do_all(parts[1][1])
            self.carry_out(parts[2][0])

    def repeat(self, parts):
        while True:
            self.carry_out(parts[0][0])
            self.do_all(parts[0][1])
            if self.carry_out(parts[1][0]) == 0:
                return
            self.do_all(parts[1][1])
            self.carry_out(parts[2][0])

    def carry_out(self, index):
        """Carries out one word, and answers what an if or do has taken."""
        place, word = self.words[index]
        self.following = place + 1
        if self.count == self.limit:
            raise Pause()
        stack, output = list(self.stack), self.output
        try:
            if self.count == 3000:
                raise Fault(11)
            taken = self.do(word)
        except Fault as fault:
            self.stack, self.output = stack, output
            if len(fault.args) == 1:
                raise Fault(fault.args[0], place) from None
            raise
        self.count += 1
        self.under_way += is_name(word) - (word in (";", "leave"))
        self.following = 0
        self.moments.append(self.alive())
        if word == "leave":
            raise Leave()
        if is_name(word):
            self.go_through(word)
        return taken

    def go_through(self, name):
        body, last = self.bodies[name]
        try:
            self.do_all(body)
            self.carry_out(last)
        except Leave:
            pass

    def alive(self):
        """How much is alive: all that can be come to is walked anew at each moment."""
        variables = [value for value in self.variables.values() if value != 0]
        return len(self.stack) + len(variables) + self.under_way + len(cells_behind(self.stack + variables))

    def take(self, many, kinds=object):
        if len(self.stack) < many:
            raise Fault(6)
        taken = [self.stack.pop() for k in range(many)][::-1]
        if not all(isinstance(value, kinds) for value in taken):
            raise Fault(7)
        return taken

    def give_number(self, number):
        if not LOWEST <= number <= HIGHEST:
            raise Fault(8)
        self.stack.append(number)

    def say(self, text):
        if len(self.output + text) > 4096:
            raise Fault(12)
        self.output += text

    def do(self, word):
        if is_number(word):
            self.stack.append(int(word))
        elif word[0] == "@":
            self.stack.append(self.variables.get(word[1], 0))
        elif word[0] == "!":
            self.variables[word[1]] = self.take(1)[0]
        elif is_name(word) and self.under_way == 100:
            raise Fault(10)
        elif word in ("if", "do"):
            return self.take(1, int)[0]
        elif word in ("+", "-", "*", "/", "mod", "<"):
            self.reckon(word, *self.take(2, int))
        elif word in ("say", "put", "cr"):
            self.do_say(word)
        elif word in PLAIN:
            self.do_plain(word)
        return None

    def reckon(self, word, a, b):
        if word in ("/", "mod") and b == 0:
            raise Fault(9)
        if word == "+":
            self.give_number(a + b)
        elif word == "-":
            self.give_number(a - b)
        elif word == "*":
            self.give_number(a * b)
        elif word == "/":
            self.give_number(floor(Fraction(a, b)))
        elif word == "mod":
            self.give_number(a - b * floor(Fraction(a, b)))
        else:
            self.give_number(int(a < b))

    def do_say(self, word):
        if word == "cr":
            self.say("\n")
        elif word == "say":
            value = self.take(1)[0]
            if length_of(value) > 4096:
                raise Fault(12)
            self.say(said_of(value))
        else:
            byte = self.take(1, int)[0]
            if not 0 <= byte <= 255:
                raise Fault(8)
            self.say(bytes([byte]).decode("latin-1"))

    def do_plain(self, word):
        moves = {"dup": (1, "00"), "drop": (1, ""), "swap": (2, "10"), "over": (2, "010"), "rot": (3, "120")}
        if word in moves:
            taken = self.take(moves[word][0])
            self.stack.extend(taken[int(place)] for place in moves[word][1])
        elif word == "()":
            self.stack.append(EMPTY)
        elif word == "depth":
            self.stack.append(len(self.stack))
        elif word == "=":
            self.stack.append(int(are_alike(*self.take(2))))
        elif word == "same":
            self.stack.append(int(are_same(*self.take(2))))
        elif word == "pair":
            self.stack.append(Cell(*self.take(2)))
            self.made += 1
        elif word == "kind":
            value = self.take(1)[0]
            self.stack.append(2 if isinstance(value, Cell) else 1 if value == EMPTY else 0)
        else:
            cell = self.take(1, Cell)[0]
            self.stack.append(cell.first if word == "first" else cell.rest)


@lru_cache(maxsize=100)
def run_of(text, limit):
    return Run(text, limit)


def answer_of_value(value):
    if length_of(value) > 4096:
        return [-6]
    bytes_said = list(said_of(value).encode())
    return [0, len(bytes_said)] + bytes_said


class Line:
    """What the calls of a line answer. All that is kept is the text, and how many words were asked for."""

    def __init__(self):
        self.text = None
        self.asked = 0
        self.run = None

    def answer(self, call):
        number, *numbers = call
        if number == 0:
            return self.begin(bytes(numbers[1:]).decode("latin-1"))
        if self.text is None:
            return [-2]
        self.run = run_of(self.text, self.asked)
        return (self.go, self.said, self.top, self.var, self.state, self.alike, self.again)[number - 1](*numbers)

    def begin(self, text):
        if len(text) > 4096:
            return [-1]
        fault = fault_of_text(text)
        if fault is not None:
            return [-3, *fault]
        self.text, self.asked = text, 0
        return [0, len(words_of(text))]

    def go(self, n):
        if n > 3000:
            return [-1]
        self.asked += n
        run = run_of(self.text, self.asked)
        return [0, run.count, run.stands, *(run.fault or ())]

    def said(self, start):
        bytes_said = list(self.run.output.encode("latin-1"))
        if start > len(bytes_said):
            return [-1]
        return [0, len(bytes_said) - start] + bytes_said[start:]

    def top(self, k):
        return answer_of_value(self.run.stack[::-1][k]) if k < len(self.run.stack) else [-1]

    def var(self, x):
        return answer_of_value(self.run.variables.get(chr(ord("a") + x), 0)) if x < 26 else [-1]

    def state(self):
        run = self.run
        return [0, len(run.stack), run.under_way, run.made, run.moments[-1], max(run.moments), len(run.output),
                run.following]

    def alike(self, j, k):
        values = self.run.stack[::-1]
        if j >= len(values) or k >= len(values):
            return [-1]
        return [0, int(are_alike(values[j], values[k])), int(are_same(values[j], values[k]))]

    def again(self):
        self.asked = 0
        return [0, 0]
