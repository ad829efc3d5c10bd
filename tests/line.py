"""Lines of calls, put together and their answers taken apart, for the tests."""

from sharedlists.runs import answers


def row(text):
    return list(text.encode("latin-1")) if isinstance(text, str) else list(text)


def begin(text):
    return [0, len(row(text))] + row(text)


def go(n=3000):
    return [1, n]


def said(start=0):
    return [2, start]


def top(k=0):
    return [3, k]


def var(x=0):
    return [4, x if isinstance(x, int) else ord(x) - ord("a")]


def state():
    return [5]


def alike(j=0, k=1):
    return [6, j, k]


def again():
    return [7]


def ask(*calls):
    """What each of the calls answers, a list each."""
    line = [number for call in calls for number in call]
    assert len(calls) <= 400 and len(line) <= 31000, (len(calls), len(line))
    given = answers(line)
    taken = []
    place = 0
    while place < len(given):
        count = given[place]
        taken.append(given[place + 1:place + 1 + count])
        assert len(taken[-1]) == count
        place += 1 + count
    assert len(taken) == len(calls)
    return taken


def text_of(answer):
    """The text of an answer that is a row of bytes."""
    assert answer[0] == 0 and answer[1] == len(answer) - 2, answer
    return bytes(answer[2:]).decode("latin-1")


def fault_of_text(text):
    """The fault of a text and its place, or None if it is right."""
    answer = ask(begin(text))[0]
    if answer[0] == -3:
        assert len(answer) == 3
        return tuple(answer[1:])
    assert answer[0] == 0 and len(answer) == 2, answer
    return None


def how_it_ends(text):
    """What a go to the end answers behind the first 0."""
    answer = ask(begin(text), go())[1]
    assert answer[0] == 0
    return tuple(answer[1:])


def fault_of_run(text):
    """The fault at which a run comes to stand, and its place."""
    end = how_it_ends(text)
    assert end[1] == 2 and len(end) == 4, end
    return end[2:]


def output(text):
    """What a text says in a run to its end, which has to be no fault."""
    taken = ask(begin(text), go(), said())
    assert taken[1][2] == 1, taken[1]
    return text_of(taken[2])


def stack(text, depth):
    """What is said of the values on top, the top last, when a text that ends with no fault has run."""
    taken = ask(begin(text), go(), *[top(k) for k in range(depth)], top(depth))
    assert taken[1][2] == 1, taken[1]
    assert taken[-1] == [-1], taken[-1]
    return [text_of(answer) for answer in reversed(taken[2:-1])]
