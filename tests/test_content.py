"""The content of a branch: what precedes what, the visible lines, their order and conflicts."""

import unittest

from tests.sessions import apply_change, branch, content_after, delete, merge, run, write
from textgrafts.changes import Change, Hunk
from textgrafts.content import Content

START = (-1, 0)
END = (-2, 0)


def hunk(before, positions, after):
    return Hunk(before, after, positions, [[change, number] for change, number in positions])


class Order(unittest.TestCase):
    def test_empty_branch(self):
        content = content_after(0)
        self.assertEqual((content.ordered, content.text(), content.conflicts()), ([], [], []))

    def test_lines_of_one_hunk(self):
        content = content_after(0, write(0, ["a", "b", "a"]))
        self.assertEqual(content.ordered, [(0, 0), (0, 1), (0, 2)])
        self.assertEqual(content.text(), [[97], [98], [97]])
        self.assertEqual(content.conflicts(), [])

    def test_what_precedes_comes_ahead_of_smaller_numbers(self):
        content = content_after(0, write(0, ["c", "d"]), write(0, ["a", "c", "b", "d"]))
        self.assertEqual(content.ordered, [(1, 0), (0, 0), (1, 1), (0, 1)])
        self.assertEqual(content.conflicts(), [])

    def test_lines_in_conflict_by_change_then_number(self):
        content = content_after(0, branch(0), write(0, ["a", "b"]), write(1, ["c", "d"]), merge(0, 1))
        self.assertEqual(content.ordered, [(0, 0), (0, 1), (1, 0), (1, 1)])
        self.assertEqual(content.text(), [[97], [98], [99], [100]])

    def test_next_is_always_the_first_of_those_that_none_precedes(self):
        # Change 2 stands ahead of change 0; change 1 is independent of both and so comes first.
        calls = [branch(0), write(0, ["a"]), write(1, ["b"]), write(0, ["c", "a"]), merge(0, 1)]
        content = content_after(0, *calls)
        self.assertEqual(content.ordered, [(1, 0), (2, 0), (0, 0)])
        self.assertEqual(content.conflicts(), [((1, 0), (2, 0)), ((1, 0), (0, 0))])

    def test_a_line_comes_as_soon_as_nothing_remains_ahead_of_it(self):
        calls = [branch(0), write(0, ["a", "b"]), write(1, ["x", "y"]), write(0, ["a", "c", "b"]), merge(1, 0)]
        self.assertEqual(content_after(1, *calls).ordered, [(0, 0), (1, 0), (1, 1), (2, 0), (0, 1)])

    def test_positions_need_not_be_in_order_within_a_change(self):
        content = Content([Change([hunk(START, [(0, 1)], (0, 0)), hunk(START, [(0, 0)], END)], [])])
        self.assertEqual(content.ordered, [(0, 1), (0, 0)])


class Conflicts(unittest.TestCase):
    def test_of_the_example(self):
        calls = [write(0, ["a", "b"]), branch(0), write(0, ["a", "c", "b"]), write(1, ["a", "d", "b"]), merge(0, 1)]
        content = content_after(0, *calls)
        self.assertEqual(content.ordered, [(0, 0), (1, 0), (2, 0), (0, 1)])
        self.assertEqual(content.conflicts(), [((1, 0), (2, 0))])

    def test_pairs_by_their_first_then_their_second_lines(self):
        calls = [branch(0), branch(0), write(0, ["a", "b"]), write(1, ["c"]), write(2, ["d"]), merge(0, 1), merge(0, 2)]
        pairs = [((0, 0), (1, 0)), ((0, 0), (2, 0)), ((0, 1), (1, 0)), ((0, 1), (2, 0)), ((1, 0), (2, 0))]
        self.assertEqual(content_after(0, *calls).conflicts(), pairs)

    def test_not_at_different_positions(self):
        calls = [write(0, ["m"]), branch(0), write(0, ["a", "m"]), write(1, ["m", "b"]), merge(0, 1)]
        content = content_after(0, *calls)
        self.assertEqual(content.ordered, [(1, 0), (0, 0), (2, 0)])
        self.assertEqual(content.conflicts(), [])

    def test_start_and_end_relate_no_lines(self):
        # A line that goes to the end does not precede one that comes from the start.
        calls = [write(0, ["m"]), branch(0), write(0, ["m", "a"]), write(1, []), write(1, ["b"]), merge(0, 1)]
        self.assertEqual(content_after(0, *calls).conflicts(), [((1, 0), (3, 0))])


class DeletedLines(unittest.TestCase):
    def test_count_in_what_precedes_what(self):
        ahead = [write(0, ["m"]), branch(0), write(0, ["a", "m"]), write(1, ["m", "b"]), merge(0, 1)]
        content = content_after(0, *ahead, delete(0, (0, 0)))
        self.assertEqual(content.ordered, [(1, 0), (2, 0)])
        self.assertEqual(content.conflicts(), [])
        self.assertEqual(run(*ahead, delete(0, (0, 0)), write(0, ["a", "b"]))[5:], [[3], [-6]])

    def test_count_when_a_write_deletes_them(self):
        calls = [write(0, ["m"]), branch(0), branch(0), write(0, ["m", "b"]), write(1, ["a", "m"]), write(2, []),
                 merge(0, 1), merge(0, 2), write(0, ["a", "b"])]
        self.assertEqual(run(*calls)[6:], [[1], [1], [-6]])

    def test_count_over_many_steps(self):
        calls = [write(0, list("bcde")), branch(0), write(0, list("bcdef")), write(1, list("abcde")), merge(0, 1),
                 delete(0, (0, 2), (0, 0), (0, 3), (0, 1))]
        content = content_after(0, *calls)
        self.assertEqual(content.ordered, [(2, 0), (1, 0)])
        self.assertEqual(content.conflicts(), [])

    def test_are_not_visible(self):
        content = content_after(0, write(0, ["a", "b"]), write(0, ["b", "c"]), delete(0, (1, 0)))
        self.assertEqual(content.visible, {(0, 1): [98]})

    def test_are_in_no_conflict(self):
        calls = [branch(0), write(0, ["a"]), write(1, ["b"]), merge(0, 1), delete(0, (1, 0))]
        self.assertEqual(content_after(0, *calls).conflicts(), [])

    def test_a_deletion_in_any_of_the_changes_counts(self):
        calls = [write(0, ["a"]), branch(0), write(1, []), write(0, ["a", "b"]), apply_change(0, 1)]
        self.assertEqual(content_after(0, *calls).ordered, [(2, 0)])

    def test_a_deletion_in_another_branch_does_not_count(self):
        calls = [write(0, ["a"]), branch(0), write(1, [])]
        self.assertEqual(content_after(0, *calls).ordered, [(0, 0)])


if __name__ == "__main__":
    unittest.main()
