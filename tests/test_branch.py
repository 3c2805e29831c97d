"""The call branch."""

import unittest

from tests.sessions import branch, history_after, last, merge, run, write


class Branch(unittest.TestCase):
    def test_numbers_are_given_one_behind_another(self):
        self.assertEqual(run(*[branch(0)] * 4), [[1], [2], [3], [4]])

    def test_fifth_branch_and_one_too_many(self):
        self.assertEqual(run(*[branch(0)] * 6), [[1], [2], [3], [4], [-8], [-8]])

    def test_any_branch_can_be_the_source(self):
        calls = [branch(0), write(1, ["a"]), branch(1), branch(0), write(2, ["a"]), write(3, [])]
        self.assertEqual(run(*calls), [[1], [0], [2], [3], [-6], [-6]])

    def test_missing_branch(self):
        self.assertEqual(run(branch(1), branch(2), branch(0), branch(2)), [[-2], [-2], [1], [-2]])

    def test_missing_branch_comes_ahead_of_too_many(self):
        self.assertEqual(run(*[branch(0)] * 4, branch(5), branch(4))[4:], [[-2], [-8]])

    def test_has_the_same_changes(self):
        calls = [write(0, ["a", "b"]), write(0, ["b", "c"]), branch(0)]
        self.assertEqual(last(*calls, write(1, ["b", "c"])), [-6])
        self.assertEqual(run(*calls, merge(1, 0), merge(0, 1))[3:], [[0], [0]])
        history = history_after(*calls)
        self.assertEqual(history.branches[1], [0, 1])

    def test_has_conflicts_too(self):
        calls = [branch(0), write(0, ["a"]), write(1, ["b"]), merge(0, 1), branch(0), write(2, ["c"])]
        self.assertEqual(run(*calls)[-2:], [[2], [-5]])

    def test_later_changes_go_to_one_branch_only(self):
        calls = [write(0, ["a"]), branch(0)]
        self.assertEqual(run(*calls, write(0, ["b"]), write(1, ["a"]), write(1, ["b"]))[2:], [[1], [-6], [2]])
        self.assertEqual(run(*calls, write(1, ["b"]), write(0, ["a"]), write(0, ["b"]))[2:], [[1], [-6], [2]])

    def test_is_no_change(self):
        self.assertEqual(run(write(0, ["a"]), branch(0), write(1, ["b"])), [[0], [1], [1]])


if __name__ == "__main__":
    unittest.main()
