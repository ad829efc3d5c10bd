"""The calls: a program that is begun, gone on with and looked at."""

from sharedlists.faults import NO_FAULT
from sharedlists.machine import AT_END, AT_FAULT, VARIABLES, Run, alive, go_on, place_of_next, standing
from sharedlists.shapes import Program, Reading, read_all
from sharedlists.things import MOST_SAID, saying

DONE = 0
NOT_AS_TOLD = -1
NO_PROGRAM = -2
NOT_RIGHT = -3
TOO_LONG_TO_SAY = -6

BEGIN = 0

LONGEST_TEXT = 4096
HIGHEST_BYTE = 255
MOST_TO_GO = 3000


class Session:
    """What the calls of one line are made on: there's no program at first."""

    def __init__(self):
        self.run = None


def begin(session, text):
    if len(text) > LONGEST_TEXT or any([byte < 0 or byte > HIGHEST_BYTE for byte in text]):
        return [NOT_AS_TOLD]
    reading = Reading(text)
    found = read_all(reading)
    if found[0] != NO_FAULT:
        return [NOT_RIGHT, found[0], found[1]]
    session.run = Run(Program(reading))
    return [DONE, len(reading.words)]


def go(session, numbers):
    run = session.run
    if not is_short(numbers[0], MOST_TO_GO):
        return [NOT_AS_TOLD]
    go_on(run, numbers[0])
    stands = standing(run)
    if stands == AT_FAULT:
        return [DONE, run.carried_out, stands, run.fault, place_of_next(run)]
    return [DONE, run.carried_out, stands]


def said(session, numbers):
    output = session.run.output
    if not is_short(numbers[0], len(output)):
        return [NOT_AS_TOLD]
    return row_answer(output[numbers[0]:])


def top(session, numbers):
    run = session.run
    if not is_short(numbers[0], len(run.stack) - 1):
        return [NOT_AS_TOLD]
    return value_answer(run, run.from_top(numbers[0]))


def var(session, numbers):
    run = session.run
    if not is_short(numbers[0], VARIABLES - 1):
        return [NOT_AS_TOLD]
    return value_answer(run, run.variables[numbers[0]])


def state(session, numbers):
    run = session.run
    answered = [DONE, len(run.stack), len(run.under_way), run.cells.how_many_made()]
    answered.extend([alive(run), run.fullest, len(run.output)])
    answered.append(0 if standing(run) == AT_END else place_of_next(run) + 1)
    return answered


def alike(session, numbers):
    run = session.run
    if not all([is_short(number, len(run.stack) - 1) for number in numbers]):
        return [NOT_AS_TOLD]
    one = run.from_top(numbers[0])
    other = run.from_top(numbers[1])
    return [DONE, 1 if run.cells.are_alike(one, other) else 0, 1 if one == other else 0]


def again(session, numbers):
    session.run = Run(session.run.program)
    return [DONE, 0]


def is_short(number, most):
    """Whether a number that's handed in is one from 0 to most."""
    return 0 <= number <= most


def row_answer(row):
    """The answer that is a row of bytes."""
    return [DONE, len(row)] + row


def value_answer(run, value):
    """The answer that is what's said of a value."""
    row = saying(run.cells, value, MOST_SAID)
    if len(row) > MOST_SAID:
        return [TOO_LONG_TO_SAY]
    return row_answer(row)


# Of each call but begin: how many numbers it has, and its def, which is called where there's a program.
CALLS = {
    1: (1, go),
    2: (1, said),
    3: (1, top),
    4: (1, var),
    5: (0, state),
    6: (2, alike),
    7: (0, again),
}


def numbers_behind(calls, place):
    """How many numbers stand behind the call at a place that belong to it."""
    if calls[place] == BEGIN:
        return 1 + calls[place + 1]
    return CALLS[calls[place]][0]


def answer(session, call, numbers):
    """What one call answers, a refusal or DONE first."""
    if call == BEGIN:
        return begin(session, numbers[1:])
    if session.run is None:
        return [NO_PROGRAM]
    calling = CALLS[call][1]
    return calling(session, numbers)


def answers(calls):
    """What the calls of one line answer: of each how many numbers these are, then these."""
    session = Session()
    given = []
    place = 0
    while place < len(calls):
        behind = place + 1 + numbers_behind(calls, place)
        numbers = answer(session, calls[place], calls[place + 1:behind])
        given.append(len(numbers))
        given.extend(numbers)
        place = behind
    return given
