"""The requirements, tried on many sessions of calls that are drawn from a fixed seed."""

import itertools
import random
import unittest

from tests.sessions import apply_change, as_line, branch, delete, merge, write
from textgrafts.changes import Change
from textgrafts.content import Content
from textgrafts.history import History
from textgrafts.operations import apply_change as add_change
from textgrafts.reading import Reader
from textgrafts.session import answer_next

SESSIONS = 150


def drawn_lines(draw):
    return [as_line(draw.choice("abcdef")) for count in range(draw.randrange(6))]


def drawn_delete(draw, history, number):
    positions = history.content(number).ordered if number < len(history.branches) else []
    return delete(number, *draw.sample(positions, min(len(positions), draw.randrange(4))))


def drawn_call(draw, history):
    number = draw.randrange(len(history.branches) + draw.choice([0, 0, 0, 1]))
    return draw.choice([
        lambda: branch(number),
        lambda: write(number, drawn_lines(draw)),
        lambda: write(number, drawn_lines(draw)),
        lambda: drawn_delete(draw, history, number),
        lambda: apply_change(number, draw.randrange(12)),
        lambda: merge(number, draw.randrange(len(history.branches))),
    ])()


def drawn_steps(seed):
    """Each call of a session, its answer, and the history behind it."""
    draw = random.Random(seed)
    history = History()
    for count in range(30):
        call = drawn_call(draw, history)
        yield call, answer_next(history, Reader(call)), history


def last_history(seed):
    return [history for call, answer, history in drawn_steps(seed)][-1]


def preceding_pairs(content):
    """All pairs of visible lines of which the first precedes the second."""
    return {(one, other) for one in content.visible for other in content.visible if other in content.reached[one]}


def undeleted(changes):
    """The content with the deleted lines left in, so that the order of all lines is seen."""
    return Content([Change(change.hunks, []) for change in changes])


def shape(content):
    return content.ordered, content.text(), content.conflicts()


class Requirements(unittest.TestCase):
    def test_sessions_reach_what_is_to_be_tried(self):
        firsts = [(call[0], answer[0]) for seed in range(SESSIONS) for call, answer, history in drawn_steps(seed)]
        for call, code in ((0, -8), (1, -5), (1, -6), (1, -8), (2, -3), (2, -8), (3, -3), (3, -4), (3, -6), (4, -2)):
            self.assertIn((call, code), firsts)
        for call in range(5):
            self.assertTrue(any(code >= 0 for found, code in firsts if found == call))

    def test_one_line_precedes_another_in_all_branches_or_in_none(self):
        for seed in range(SESSIONS):
            history = last_history(seed)
            contents = [undeleted([history.changes[k] for k in numbers]) for numbers in history.branches]
            for one, other in itertools.combinations(contents, 2):
                shared = set(one.visible) & set(other.visible)
                pairs = [{pair for pair in preceding_pairs(content) if shared.issuperset(pair)}
                         for content in (one, other)]
                self.assertEqual(pairs[0], pairs[1])

    def test_no_two_lines_precede_each_other(self):
        for seed in range(SESSIONS):
            pairs = preceding_pairs(undeleted(last_history(seed).changes))
            self.assertEqual({(other, one) for one, other in pairs} & pairs, set())

    def test_text_after_write_is_the_given_one_without_conflicts(self):
        for seed in range(SESSIONS):
            for call, answer, history in drawn_steps(seed):
                if call[0] == 1 and answer[0] >= 0:
                    content = history.content(call[1])
                    given = []
                    rest = call[4:]
                    while rest:
                        given.append(rest[1:1 + rest[0]])
                        rest = rest[1 + rest[0]:]
                    self.assertEqual((content.text(), content.conflicts()), (given, []))

    def test_order_of_adding_makes_no_difference(self):
        for seed in range(SESSIONS):
            history = last_history(seed)
            draw = random.Random(seed)
            for number in range(len(history.branches)):
                rebuilt = History()
                rebuilt.changes = history.changes
                waiting = list(history.branches[number])
                while waiting:
                    change = draw.choice(waiting)
                    if add_change(rebuilt, 0, change)[0] > 0:
                        waiting.remove(change)
                self.assertEqual(shape(rebuilt.content(0)), shape(history.content(number)))

    def test_branches_have_what_their_changes_depend_on(self):
        for seed in range(SESSIONS):
            for call, answer, history in drawn_steps(seed):
                for numbers in history.branches:
                    for number in numbers:
                        self.assertLessEqual(set(history.changes[number].dependencies()), set(numbers))

    def test_errors_change_nothing(self):
        for seed in range(SESSIONS):
            before = None
            for call, answer, history in drawn_steps(seed):
                after = (list(history.changes), [list(numbers) for numbers in history.branches])
                if answer[0] < 0 and before is not None:
                    self.assertEqual(after, before)
                before = after


if __name__ == "__main__":
    unittest.main()
