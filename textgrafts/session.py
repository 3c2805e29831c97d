"""A session: calls on one new history, executed in order."""

from textgrafts.codes import NO_BRANCH
from textgrafts.history import History
from textgrafts.operations import apply_change, create_branch, delete, merge, revert, show
from textgrafts.operations import tell_change, tell_lines, write
from textgrafts.reading import Reader, lines_in, positions_in

# For each call: how many numbers it has, how many of these, from the first on,
# name branches, and whether a row comes behind them.
FORMS = {
    0: (1, 1, False),
    1: (2, 1, True),
    2: (1, 1, True),
    3: (2, 1, False),
    4: (2, 2, False),
    5: (2, 1, False),
    6: (1, 1, False),
    7: (1, 1, False),
    8: (1, 0, False),
}


def carry_out(history, call, numbers, row):
    """The answer to a call whose branches exist."""
    if call == 0:
        return create_branch(history, numbers[0])
    if call == 1:
        # The row holds just as many lines as numbers[1] tells, so that number is not needed.
        return write(history, numbers[0], lines_in(row))
    if call == 2:
        return delete(history, numbers[0], positions_in(row))
    if call == 3:
        return apply_change(history, numbers[0], numbers[1])
    if call == 4:
        return merge(history, numbers[0], numbers[1])
    if call == 5:
        return revert(history, numbers[0], numbers[1])
    if call == 6:
        return show(history, numbers[0])
    if call == 7:
        return tell_lines(history, numbers[0])
    return tell_change(history, numbers[0])


def answer_next(history, reader):
    """Reads the next call whole and gives back the answer to it."""
    call = reader.take()
    form = FORMS[call]
    numbers = reader.take_many(form[0])
    row = reader.take_row() if form[2] else []
    if not all([history.has_branch(branch) for branch in numbers[:form[1]]]):
        return [NO_BRANCH]
    return carry_out(history, call, numbers, row)


def answers(calls):
    """The answers to the calls in order, each behind how many numbers it has."""
    history = History()
    reader = Reader(calls)
    answered = []
    while not reader.is_done():
        answer = answer_next(history, reader)
        answered.append(len(answer))
        answered.extend(answer)
    return answered
