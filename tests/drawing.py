"""Sessions of calls that are drawn from a fixed seed."""

import random

from tests.sessions import apply_change, as_line, branch, delete, merge, revert, write
from textgrafts.history import History
from textgrafts.reading import Reader
from textgrafts.session import answer_next


def drawn_lines(draw):
    return [as_line(draw.choice("abcdef")) for count in range(draw.randrange(6))]


def drawn_delete(draw, history, number):
    positions = history.content(number).ordered if number < len(history.branches) else []
    return delete(number, *draw.sample(positions, min(len(positions), draw.randrange(4))))


def drawn_call(draw, history):
    number = draw.randrange(len(history.branches) + draw.choice([0, 0, 0, 1]))
    return draw.choice([
        lambda: branch(number),
        lambda: write(number, drawn_lines(draw)),
        lambda: write(number, drawn_lines(draw)),
        lambda: drawn_delete(draw, history, number),
        lambda: apply_change(number, draw.randrange(12)),
        lambda: merge(number, draw.randrange(len(history.branches))),
        lambda: revert(number, draw.randrange(len(history.changes) + 1)),
    ])()


def drawn_steps(seed, most=30):
    """Each call of a session, its answer, and the history behind it."""
    draw = random.Random(seed)
    history = History()
    for count in range(most):
        call = drawn_call(draw, history)
        yield call, answer_next(history, Reader(call)), history


def drawn_calls(seed, most):
    """The calls of a session, and how many branches and changes there are then."""
    calls = []
    for call, answer, history in drawn_steps(seed, most):
        calls.append(call)
    return calls, len(history.branches), len(history.changes)


def last_history(seed):
    return [history for call, answer, history in drawn_steps(seed)][-1]
