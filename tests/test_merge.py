"""The call merge."""

import unittest

from tests.sessions import apply_change, branch, delete, history_after, last, merge, run, write


class Merge(unittest.TestCase):
    def test_how_many_changes_were_added(self):
        calls = [branch(0), write(1, ["a"]), write(1, ["a", "b"]), write(1, ["a"]), merge(0, 1), write(0, ["a"])]
        self.assertEqual(run(*calls)[4:], [[3], [-6]])

    def test_changes_that_both_have_do_not_count(self):
        calls = [write(0, ["m"]), branch(0), write(1, ["a", "m"]), write(0, ["m", "z"]), write(1, ["a", "b", "m"])]
        self.assertEqual(run(*calls, merge(0, 1), write(0, ["a", "b", "m", "z"]))[5:], [[2], [-6]])

    def test_with_itself(self):
        self.assertEqual(run(merge(0, 0), write(0, ["a"]), merge(0, 0), write(0, ["a"])), [[0], [0], [0], [-6]])

    def test_again(self):
        calls = [branch(0), write(1, ["a"]), merge(0, 1), merge(0, 1), merge(1, 0)]
        self.assertEqual(run(*calls)[2:], [[1], [0], [0]])

    def test_nothing_to_add(self):
        self.assertEqual(run(branch(0), write(0, ["a"]), merge(0, 1), write(0, ["a"]))[2:], [[0], [-6]])

    def test_the_other_branch_stays_as_it_is(self):
        calls = [branch(0), write(0, ["a"]), write(1, ["b"]), merge(0, 1), write(1, ["b"]), merge(1, 0)]
        self.assertEqual(run(*calls)[3:], [[1], [-6], [1]])

    def test_later_changes_stay_apart(self):
        calls = [branch(0), write(1, ["a"]), merge(0, 1), write(0, ["b"]), write(1, ["a"]), merge(1, 0)]
        self.assertEqual(run(*calls)[2:], [[1], [1], [-6], [1]])

    def test_either_branch_missing(self):
        self.assertEqual(run(merge(0, 1), merge(1, 0), merge(1, 1), merge(0, 1000000)), [[-2]] * 4)

    def test_may_bring_conflicts(self):
        calls = [branch(0), write(0, ["a"]), write(1, ["b"]), merge(0, 1), write(0, ["a", "b"])]
        self.assertEqual(last(*calls), [-5])

    def test_is_no_change(self):
        calls = [branch(0), write(1, ["a"]), merge(0, 1), write(0, ["b"]), apply_change(1, 2)]
        self.assertEqual(run(*calls)[2:], [[1], [1], [-3]])

    def test_brings_what_was_made_with_all_its_dependencies(self):
        calls = [branch(0), write(1, ["a", "b"]), delete(1, (0, 0)), write(1, ["b", "c"]), merge(0, 1)]
        self.assertEqual(history_after(*calls).branches, [[0, 1, 2], [0, 1, 2]])

    def test_both_ways_make_the_same_branch(self):
        calls = [write(0, ["m"]), branch(0), write(0, ["m", "y"]), write(1, ["m", "z"]), branch(0), merge(0, 1),
                 merge(1, 2)]
        history = history_after(*calls)
        self.assertEqual(history.branches[0], history.branches[1])
        self.assertEqual(history.content(0).ordered, history.content(1).ordered)


if __name__ == "__main__":
    unittest.main()
