"""The call apply, and on which changes a change depends."""

import unittest

from tests.sessions import apply_change, branch, delete, history_after, last, merge, run, write


class Apply(unittest.TestCase):
    def test_how_many_changes_the_branch_has_then(self):
        calls = [branch(0), write(0, ["a"]), write(0, ["a", "b"]), apply_change(1, 0), apply_change(1, 1)]
        self.assertEqual(run(*calls, write(1, ["a", "b"]))[3:], [[1], [2], [-6]])

    def test_independent_changes_in_any_order(self):
        ahead = [write(0, ["m"]), branch(0), branch(0), write(0, ["m", "z"]), write(1, ["a", "m"])]
        for first, second in ((1, 2), (2, 1)):
            calls = [*ahead, apply_change(2, first), apply_change(2, second), write(2, ["a", "m", "z"])]
            self.assertEqual(run(*calls)[5:], [[2], [3], [-6]])

    def test_change_that_does_not_exist(self):
        self.assertEqual(last(apply_change(0, 0)), [-3])
        self.assertEqual(last(write(0, ["a"]), branch(0), apply_change(1, 1)), [-3])
        self.assertEqual(last(write(0, ["a"]), apply_change(0, 1000000)), [-3])

    def test_change_that_the_branch_has(self):
        self.assertEqual(last(write(0, ["a"]), apply_change(0, 0)), [-6])
        self.assertEqual(last(branch(0), write(0, ["a"]), apply_change(1, 0), apply_change(1, 0)), [-6])
        self.assertEqual(last(branch(0), write(0, ["a"]), merge(1, 0), apply_change(1, 0)), [-6])

    def test_may_bring_conflicts(self):
        calls = [branch(0), write(0, ["a"]), write(1, ["b"]), apply_change(1, 0), write(1, ["a"])]
        self.assertEqual(run(*calls)[3:], [[2], [-5]])

    def test_the_other_branch_stays_as_it_is(self):
        calls = [branch(0), write(0, ["a"]), write(1, ["b"]), apply_change(1, 0), write(0, ["a"]), merge(0, 1)]
        self.assertEqual(run(*calls)[4:], [[-6], [1]])


class Dependencies(unittest.TestCase):
    def missing(self, change, *calls):
        """What apply answers on a branch without any change."""
        return last(branch(0), *calls, apply_change(1, change))

    def test_line_ahead_of_a_hunk(self):
        self.assertEqual(self.missing(1, write(0, ["a"]), write(0, ["a", "b"])), [-4, 1, 0])

    def test_line_behind_a_hunk(self):
        self.assertEqual(self.missing(1, write(0, ["a"]), write(0, ["b", "a"])), [-4, 1, 0])

    def test_start_and_end_are_no_dependencies(self):
        self.assertEqual(self.missing(0, write(0, ["a"])), [1])

    def test_deleted_line(self):
        self.assertEqual(self.missing(1, write(0, ["a"]), write(0, [])), [-4, 1, 0])
        self.assertEqual(self.missing(1, write(0, ["a", "b"]), delete(0, (0, 1))), [-4, 1, 0])

    def test_lines_deleted_at_one_time_from_many_changes(self):
        calls = [write(0, ["c"]), write(0, ["b", "c"]), write(0, ["a", "b", "c"])]
        self.assertEqual(self.missing(3, *calls, delete(0, (2, 0), (0, 0), (1, 0))), [-4, 3, 0, 1, 2])
        self.assertEqual(self.missing(3, *calls, delete(0, (2, 0), (0, 0))), [-4, 2, 0, 2])
        self.assertEqual(self.missing(3, *calls, write(0, [])), [-4, 3, 0, 1, 2])

    def test_only_what_the_change_itself_refers_to(self):
        calls = [write(0, ["a"]), write(0, ["a", "b"]), write(0, ["a", "b", "c"])]
        self.assertEqual(self.missing(2, *calls), [-4, 1, 1])

    def test_both_sides_of_a_hunk(self):
        calls = [write(0, ["a"]), write(0, ["a", "c"]), write(0, ["a", "b", "c"])]
        self.assertEqual(self.missing(2, *calls), [-4, 2, 0, 1])

    def test_each_once_and_in_increasing_order(self):
        calls = [write(0, ["c"]), write(0, ["b", "c"]), write(0, ["a", "b", "c"])]
        self.assertEqual(self.missing(3, *calls, write(0, ["a", "x", "b", "y", "z"])), [-4, 3, 0, 1, 2])

    def test_a_change_does_not_depend_on_deletions(self):
        calls = [write(0, ["a", "b"]), delete(0, (0, 1)), write(0, ["a", "c"])]
        self.assertEqual(self.missing(2, *calls), [-4, 1, 0])

    def test_only_those_that_the_branch_does_not_have(self):
        calls = [branch(0), write(0, ["c"]), write(0, ["b", "c"]), write(0, ["a", "b", "c"]), write(0, [])]
        self.assertEqual(last(*calls, apply_change(1, 0), apply_change(1, 3)), [-4, 2, 1, 2])
        self.assertEqual(last(*calls, apply_change(1, 0), apply_change(1, 1), apply_change(1, 3)), [-4, 1, 2])
        behind = [apply_change(1, 0), apply_change(1, 1), apply_change(1, 2), apply_change(1, 3), write(1, [])]
        self.assertEqual(run(*calls, *behind)[5:], [[1], [2], [3], [4], [-6]])

    def test_of_a_recorded_change(self):
        calls = [write(0, ["b", "e"]), write(0, ["a", "b", "e"]), write(0, ["a", "x", "e"]), write(0, ["y", "a", "x"])]
        history = history_after(*calls)
        found = [change.dependencies() for change in history.changes]
        self.assertEqual(found, [[], [0], [0], [0, 1]])


if __name__ == "__main__":
    unittest.main()
