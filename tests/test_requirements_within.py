"""The requirements, seen from within on many sessions of calls that are drawn from a fixed seed."""

import itertools
import random
import unittest

from tests.drawing import drawn_steps, last_history
from textgrafts.changes import Change
from textgrafts.content import Content
from textgrafts.history import History
from textgrafts.operations import apply_change as add_change
from textgrafts.operations import revert as remove_change

SESSIONS = 150


def preceding_pairs(content):
    """All pairs of visible lines of which the first precedes the second."""
    return {(one, other) for one in content.visible for other in content.visible if other in content.reached[one]}


def undeleted(changes):
    """The content with the deleted lines left in, so that the order of all lines is seen."""
    return Content([Change(change.hunks, []) for change in changes])


def shape(content):
    return content.ordered, content.text(), content.conflicts()


def add_in_any_order(draw, history, waiting):
    """Adds the changes to branch 0 in an order that is drawn, each as soon as it can be."""
    while waiting:
        change = draw.choice(waiting)
        if add_change(history, 0, change)[0] > 0:
            waiting.remove(change)


class Requirements(unittest.TestCase):
    def test_sessions_reach_what_is_to_be_tried(self):
        firsts = [(call[0], answer[0]) for seed in range(SESSIONS) for call, answer, history in drawn_steps(seed)]
        for call, code in ((0, -8), (1, -5), (1, -6), (1, -8), (2, -3), (2, -8), (3, -3), (3, -4), (3, -6), (4, -2),
                           (5, -2), (5, -4), (5, -6)):
            self.assertIn((call, code), firsts)
        for call in range(6):
            self.assertTrue(any(code >= 0 for found, code in firsts if found == call))

    def test_one_line_precedes_another_in_all_branches_or_in_none(self):
        for seed in range(SESSIONS):
            history = last_history(seed)
            contents = [undeleted([history.changes[k] for k in numbers]) for numbers in history.branches]
            for one, other in itertools.combinations(contents, 2):
                shared = set(one.visible) & set(other.visible)
                pairs = [{pair for pair in preceding_pairs(content) if shared.issuperset(pair)}
                         for content in (one, other)]
                self.assertEqual(pairs[0], pairs[1])

    def test_no_two_lines_precede_each_other(self):
        for seed in range(SESSIONS):
            pairs = preceding_pairs(undeleted(last_history(seed).changes))
            self.assertEqual({(other, one) for one, other in pairs} & pairs, set())

    def test_order_of_adding_makes_no_difference(self):
        for seed in range(SESSIONS):
            history = last_history(seed)
            for numbers, content in [(history.branches[k], history.content(k)) for k in range(len(history.branches))]:
                rebuilt = History()
                rebuilt.changes = history.changes
                add_in_any_order(random.Random(seed), rebuilt, list(numbers))
                self.assertEqual(shape(rebuilt.content(0)), shape(content))

    def test_removing_what_was_added_restores_the_branch(self):
        for seed in range(SESSIONS):
            history = last_history(seed)
            for number, change in itertools.product(range(len(history.branches)), range(len(history.changes))):
                before = [list(numbers) for numbers in history.branches]
                if add_change(history, number, change)[0] > 0:
                    self.assertNotEqual(history.branches, before)
                    self.assertEqual(remove_change(history, number, change), [len(before[number])])
                self.assertEqual(history.branches, before)

    def test_branches_have_what_their_changes_depend_on(self):
        for seed in range(SESSIONS):
            for call, answer, history in drawn_steps(seed):
                for numbers in history.branches:
                    for number in numbers:
                        self.assertLessEqual(set(history.changes[number].dependencies()), set(numbers))

    def test_errors_change_nothing(self):
        for seed in range(SESSIONS):
            before = ([], [[]])
            for call, answer, history in drawn_steps(seed):
                after = (list(history.changes), [list(numbers) for numbers in history.branches])
                if answer[0] < 0:
                    self.assertEqual(after, before)
                before = after


if __name__ == "__main__":
    unittest.main()
