"""A run of a program: what it has, where it stands, and how it goes on."""

from sharedlists.faults import NO_FAULT, TOO_FEW_VALUES, TOO_MANY_WORDS, WRONG_KIND
from sharedlists.things import CELL, NUMBER, ZERO, Cells
from sharedlists.words import ACTIONS

MOST_CARRIED_OUT = 3000
VARIABLES = 26

CAN_GO_ON = 0
AT_END = 1
AT_FAULT = 2


class Run:
    """A run of a program, at its beginning at first."""

    def __init__(self, program):
        self.program = program
        self.cells = Cells()
        # Both are changed by the methods below alone, as these tell the cells what holds them.
        self.stack = []
        self.variables = [ZERO for variable in range(VARIABLES)]
        self.variables_not_zero = 0
        # What the word being carried out has taken. It's let go of behind the word: most words give it
        # again, and a long list isn't to be let go of and held anew each time.
        self.taken = []
        # For each procedure under way the index of the word behind its name.
        self.under_way = []
        self.output = []
        self.carried_out = 0
        self.position = 0
        # Where the run goes on when the word at its position has been carried out.
        self.following = 0
        self.fault = NO_FAULT
        # How much was alive at the fullest moment; at the beginning it's nothing.
        self.fullest = 0

    def give(self, value):
        """Puts a value on the stack."""
        self.cells.hold(value)
        self.stack.append(value)

    def take(self, many):
        """Takes so many values off the stack: a list, the top last."""
        taken = []
        for place in range(many):
            taken.append(self.stack.pop())
        taken.reverse()
        self.taken.extend(taken)
        return taken

    def change_variable(self, variable, value):
        """A variable becomes a value."""
        before = self.variables[variable]
        self.cells.hold(value)
        self.taken.append(before)
        self.variables[variable] = value
        if before != ZERO:
            self.variables_not_zero -= 1
        if value != ZERO:
            self.variables_not_zero += 1

    def let_go_of_taken(self):
        """What was taken is gone, where it wasn't given again."""
        for value in self.taken:
            self.cells.let_go(value)
        self.taken = []

    def from_top(self, place):
        """The value at a place of the stack, the top's being 0."""
        return self.stack[len(self.stack) - 1 - place]

    def number_from_top(self, place):
        """The number that the value at a place of the stack is."""
        return self.from_top(place)[1]


def standing(run):
    """How a run stands."""
    if run.fault != NO_FAULT:
        return AT_FAULT
    if run.position == len(run.program.steps):
        return AT_END
    return CAN_GO_ON


def place_of_next(run):
    """The place in the text of the word that is next, or at fault."""
    return run.program.places[run.position]


def alive(run):
    """How much is alive, each cell once."""
    return len(run.stack) + run.variables_not_zero + len(run.under_way) + run.cells.held


def go_on(run, most):
    """Carries out so many words, or fewer if the run ends before."""
    left = most
    while left > 0 and standing(run) == CAN_GO_ON:
        carry_out(run)
        left -= 1


def carry_out(run):
    """Carries out the next word, or comes to its fault."""
    run.following = run.position + 1
    fault = try_word(run)
    if fault != NO_FAULT:
        run.fault = fault
    else:
        run.carried_out += 1
        run.position = run.following
        run.let_go_of_taken()
        run.fullest = max(run.fullest, alive(run))


def try_word(run):
    """Does what the next word does and answers NO_FAULT, or answers its fault, with nothing done."""
    if run.carried_out == MOST_CARRIED_OUT:
        return TOO_MANY_WORDS
    step = run.program.steps[run.position]
    action = ACTIONS[step[0]]
    fault = fault_of_stack(run.stack, action[0])
    if fault != NO_FAULT:
        return fault
    doing = action[1]
    return doing(run, step[1])


def fault_of_stack(stack, wanted):
    """The fault of a stack on top of which a word wants values of these kinds."""
    below = len(stack) - len(wanted)
    if below < 0:
        return TOO_FEW_VALUES
    for place, want in enumerate(wanted):
        if not is_wanted(stack[below + place], want):
            return WRONG_KIND
    return NO_FAULT


def is_wanted(value, want):
    """Whether a value is of the kind that a letter of ACTIONS tells."""
    if want == "n":
        return value[0] == NUMBER
    if want == "c":
        return value[0] == CELL
    return True
