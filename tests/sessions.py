"""Writes calls down as numbers, and runs them."""

from textgrafts.history import History
from textgrafts.reading import Reader
from textgrafts.session import answer_next, answers


def as_line(text):
    """A line from a text, or from its bytes as they are."""
    return [ord(sign) for sign in text] if isinstance(text, str) else list(text)


def branch(number):
    return [0, number]


def in_a_row(texts):
    """The lines as they lie in calls and answers, each behind its number of bytes."""
    row = []
    for text in texts:
        line = as_line(text)
        row += [len(line)] + line
    return row


def write(number, texts):
    row = in_a_row(texts)
    return [1, number, len(texts), len(row)] + row


def delete(number, *positions):
    row = [part for position in positions for part in position]
    return [2, number, len(row)] + row


def apply_change(number, change):
    return [3, number, change]


def merge(number, other):
    return [4, number, other]


def revert(number, change):
    return [5, number, change]


def show(number):
    return [6, number]


def tell_lines(number):
    return [7, number]


def tell_change(number):
    return [8, number]


def shown(texts):
    """What show answers when the lines are the text."""
    return [len(texts)] + in_a_row(texts)


def told_lines(positions, conflicts):
    """What lines answers when the visible lines stand at the positions and the pairs are in conflict."""
    pairs = [part for pair in conflicts for position in pair for part in position]
    return [len(positions)] + joined(positions) + [len(conflicts)] + pairs


def told_change(hunks, deleted, dependencies):
    """What change answers; each hunk is the position before it, its lines, and the position after it."""
    answer = [len(hunks)]
    for before, texts, after in hunks:
        answer += [*before, *after, len(texts)] + in_a_row(texts)
    return answer + [len(deleted)] + joined(deleted) + [len(dependencies)] + dependencies


def joined(calls):
    return [number for call in calls for number in call]


def split(answered):
    """The answers, one list for each call."""
    found = []
    start = 0
    while start < len(answered):
        end = start + 1 + answered[start]
        found.append(answered[start + 1:end])
        start = end
    return found


def run(*calls):
    """What the calls of one session are answered, one list for each."""
    found = split(answers(joined(calls)))
    assert len(found) == len(calls), found
    return found


def last(*calls):
    """What the last of the calls is answered."""
    return run(*calls)[-1]


def history_after(*calls):
    """What a session holds after the calls."""
    history = History()
    reader = Reader(joined(calls))
    while not reader.is_done():
        answer_next(history, reader)
    return history


def content_after(number, *calls):
    """The content of a branch after the calls."""
    return history_after(*calls).content(number)
