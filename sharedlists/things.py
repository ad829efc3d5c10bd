"""Things: values, the cells that they share, and how a value is said.

A value is a pair of its kind and a number: of a number itself, of a cell its index among the cells
made. So a value is never nested, however deep the list is that it stands for, and two values are the
same thing just if the pairs are equal.
"""

NUMBER = 0
EMPTY = 1
CELL = 2

ZERO = (0, 0)
EMPTY_LIST = (1, 0)

LOWEST = -9223372036854775808
HIGHEST = 9223372036854775807

MOST_SAID = 4096


def is_in_range(number):
    """Whether a whole number can be a value."""
    return LOWEST <= number <= HIGHEST


class Cells:
    """All cells that a run has made."""

    def __init__(self):
        self.firsts = []
        self.rests = []
        # Cells that are alike bear one shape number, given when they are made: a list that shares
        # much is far larger walked than made, so it's never walked to be held against another.
        self.shapes = []
        self.shape_numbers = {}
        # How often each cell is held: by the stack, by variables, and by the cells held that have it as
        # their first or rest. A cell is older than those that have it, so no round of cells holds
        # itself, and the cells held are just those that can be come to.
        self.holds = []
        self.held = 0

    def make(self, first, rest):
        """A new cell, as a value that nothing holds yet."""
        looks = (self.look(first), self.look(rest))
        self.shapes.append(self.shape_numbers.setdefault(looks, len(self.shape_numbers)))
        self.firsts.append(first)
        self.rests.append(rest)
        self.holds.append(0)
        return (CELL, len(self.firsts) - 1)

    def hold(self, value):
        """From now on a value is held once more."""
        waiting = [value]
        while len(waiting) > 0:
            thing = waiting.pop()
            if thing[0] == CELL:
                self.holds[thing[1]] += 1
                if self.holds[thing[1]] == 1:
                    self.held += 1
                    waiting.append(self.first_of(thing))
                    waiting.append(self.rest_of(thing))

    def let_go(self, value):
        """From now on a value is held once less."""
        waiting = [value]
        while len(waiting) > 0:
            thing = waiting.pop()
            if thing[0] == CELL:
                self.holds[thing[1]] -= 1
                if self.holds[thing[1]] == 0:
                    self.held -= 1
                    waiting.append(self.first_of(thing))
                    waiting.append(self.rest_of(thing))

    def how_many_made(self):
        return len(self.firsts)

    def look(self, value):
        """What is equal of two values just if they are alike."""
        if value[0] == CELL:
            return (CELL, self.shapes[value[1]])
        return value

    def are_alike(self, one, other):
        """Whether two values are alike."""
        return self.look(one) == self.look(other)

    def first_of(self, cell):
        """The first of a cell."""
        return self.firsts[cell[1]]

    def rest_of(self, cell):
        """The rest of a cell."""
        return self.rests[cell[1]]


def saying(cells, value, most):
    """The bytes by which a value is said; broken off somewhere behind most bytes if they are more."""
    row = []
    # Each entry is a value and whether it stands as the rest of a cell that has been begun.
    waiting = [(value, False)]
    while len(waiting) > 0 and len(row) <= most:
        entry = waiting.pop()
        row.extend(codes(opening(entry[0], entry[1])))
        if entry[0][0] == CELL:
            waiting.append((cells.rest_of(entry[0]), True))
            waiting.append((cells.first_of(entry[0]), False))
    return row


def opening(value, is_rest):
    """What is said of a value ahead of a cell's first and rest."""
    if value[0] == CELL:
        return " " if is_rest else "("
    if value[0] == EMPTY:
        return ")" if is_rest else "()"
    return " . " + str(value[1]) + ")" if is_rest else str(value[1])


def codes(signs):
    """The bytes of a text."""
    return [ord(sign) for sign in signs]
