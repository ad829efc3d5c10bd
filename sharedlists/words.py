"""Words: what each of them takes and does.

The def of a word is called with the run and with what the text has settled for the word: the number
to give, the variable's index, the index of the word to go on at. What the word takes is on the stack
then, and of the right kinds. The def answers the word's fault, and has changed nothing then, or
NO_FAULT.
"""

from sharedlists.faults import DIVIDED_BY_ZERO, NO_FAULT, NO_VALUE, TOO_MANY_UNDER_WAY, TOO_MUCH_SAID
from sharedlists.things import EMPTY_LIST, MOST_SAID, NUMBER, ZERO, is_in_range, saying

MOST_UNDER_WAY = 100
HIGHEST_BYTE = 255
LINE_END = 10


def give_number(run, number):
    run.give((NUMBER, number))
    return NO_FAULT


def give_empty(run, settled):
    run.give(EMPTY_LIST)
    return NO_FAULT


def give_in_order(run, many, order):
    """Takes so many values and gives those that order tells, by their places among them."""
    taken = run.take(many)
    for place in order:
        run.give(taken[place])
    return NO_FAULT


def dup(run, settled):
    return give_in_order(run, 1, (0, 0))


def drop(run, settled):
    return give_in_order(run, 1, ())


def swap(run, settled):
    return give_in_order(run, 2, (1, 0))


def over(run, settled):
    return give_in_order(run, 2, (0, 1, 0))


def rot(run, settled):
    return give_in_order(run, 3, (1, 2, 0))


def depth(run, settled):
    return give_number(run, len(run.stack))


def give_result(run, number):
    """Gives a number for the two on top, which stay where the number is no value."""
    if not is_in_range(number):
        return NO_VALUE
    run.take(2)
    return give_number(run, number)


def add(run, settled):
    return give_result(run, run.number_from_top(1) + run.number_from_top(0))


def subtract(run, settled):
    return give_result(run, run.number_from_top(1) - run.number_from_top(0))


def multiply(run, settled):
    return give_result(run, run.number_from_top(1) * run.number_from_top(0))


def divide(run, settled):
    if run.number_from_top(0) == 0:
        return DIVIDED_BY_ZERO
    return give_result(run, run.number_from_top(1) // run.number_from_top(0))


def remain(run, settled):
    if run.number_from_top(0) == 0:
        return DIVIDED_BY_ZERO
    return give_result(run, run.number_from_top(1) % run.number_from_top(0))


def give_answer(run, is_so):
    """Gives 1 or 0 for the two on top."""
    return give_result(run, 1 if is_so else 0)


def less(run, settled):
    return give_answer(run, run.number_from_top(1) < run.number_from_top(0))


def alike(run, settled):
    return give_answer(run, run.cells.are_alike(run.from_top(1), run.from_top(0)))


def same(run, settled):
    return give_answer(run, run.from_top(1) == run.from_top(0))


def pair(run, settled):
    taken = run.take(2)
    run.give(run.cells.make(taken[0], taken[1]))
    return NO_FAULT


def first(run, settled):
    taken = run.take(1)
    run.give(run.cells.first_of(taken[0]))
    return NO_FAULT


def rest(run, settled):
    taken = run.take(1)
    run.give(run.cells.rest_of(taken[0]))
    return NO_FAULT


def kind(run, settled):
    taken = run.take(1)
    return give_number(run, taken[0][0])


def give_variable(run, variable):
    run.give(run.variables[variable])
    return NO_FAULT


def set_variable(run, variable):
    taken = run.take(1)
    run.change_variable(variable, taken[0])
    return NO_FAULT


def utter(run, row, many):
    """Says a row of bytes for so many values on top, which stay where it would be too much."""
    if len(run.output) + len(row) > MOST_SAID:
        return TOO_MUCH_SAID
    run.take(many)
    run.output.extend(row)
    return NO_FAULT


def say(run, settled):
    return utter(run, saying(run.cells, run.from_top(0), MOST_SAID - len(run.output)), 1)


def put(run, settled):
    byte = run.number_from_top(0)
    if byte < 0 or byte > HIGHEST_BYTE:
        return NO_VALUE
    return utter(run, [byte], 1)


def end_line(run, settled):
    return utter(run, [LINE_END], 0)


def go_to(run, target):
    run.following = target
    return NO_FAULT


def go_to_at_zero(run, target):
    taken = run.take(1)
    if taken[0] == ZERO:
        run.following = target
    return NO_FAULT


def begin_procedure(run, target):
    if len(run.under_way) == MOST_UNDER_WAY:
        return TOO_MANY_UNDER_WAY
    run.under_way.append(run.following)
    run.following = target
    return NO_FAULT


def end_procedure(run, settled):
    run.following = run.under_way.pop()
    return NO_FAULT


# What each word takes, the top of the stack last (n: a number, c: a cell, v: any value), and its def.
# The words that aren't spelled alike each time stand here with a blank in them, as no word has one.
ACTIONS = {
    "a number": ("", give_number),
    "()": ("", give_empty),
    "dup": ("v", dup),
    "drop": ("v", drop),
    "swap": ("vv", swap),
    "over": ("vv", over),
    "rot": ("vvv", rot),
    "depth": ("", depth),
    "+": ("nn", add),
    "-": ("nn", subtract),
    "*": ("nn", multiply),
    "/": ("nn", divide),
    "mod": ("nn", remain),
    "<": ("nn", less),
    "=": ("vv", alike),
    "same": ("vv", same),
    "pair": ("vv", pair),
    "first": ("c", first),
    "rest": ("c", rest),
    "kind": ("v", kind),
    "@ variable": ("", give_variable),
    "! variable": ("v", set_variable),
    "say": ("v", say),
    "put": ("n", put),
    "cr": ("", end_line),
    "if": ("n", go_to_at_zero),
    "else": ("", go_to),
    "end": ("", go_to),
    "while": ("", go_to),
    "do": ("n", go_to_at_zero),
    ":": ("", go_to),
    "a name": ("", begin_procedure),
    ";": ("", end_procedure),
    "leave": ("", end_procedure),
}
