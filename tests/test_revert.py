"""The call revert."""

import unittest

from tests.sessions import apply_change, branch, delete, last, merge, revert, run, show, shown, tell_change, tell_lines
from tests.sessions import told_lines, write

CHAIN = [write(0, ["a"]), write(0, ["a", "b"]), write(0, ["a", "b", "c"])]
CONFLICT = [branch(0), write(0, ["a"]), write(1, ["b"]), merge(0, 1)]


class Revert(unittest.TestCase):
    def test_how_many_changes_the_branch_has_then(self):
        calls = [*CHAIN, revert(0, 2), revert(0, 1), revert(0, 0)]
        self.assertEqual(run(*calls)[3:], [[2], [1], [0]])

    def test_the_lines_of_the_change_are_gone(self):
        self.assertEqual(last(*CHAIN, revert(0, 2), show(0)), shown(["a", "b"]))
        self.assertEqual(last(*CHAIN, revert(0, 2), revert(0, 1), show(0)), shown(["a"]))
        self.assertEqual(last(write(0, ["a"]), revert(0, 0), show(0)), shown([]))

    def test_the_lines_it_deleted_are_back(self):
        calls = [write(0, ["a", "b", "c"]), delete(0, (0, 1)), show(0), revert(0, 1), show(0)]
        self.assertEqual(run(*calls)[2:], [shown(["a", "c"]), [1], shown(["a", "b", "c"])])
        calls = [write(0, ["a", "b", "c"]), write(0, ["a", "x", "c"]), revert(0, 1), show(0)]
        self.assertEqual(run(*calls)[2:], [[1], shown(["a", "b", "c"])])

    def test_a_line_that_another_change_deletes_too_stays_deleted(self):
        calls = [write(0, ["a", "b"]), branch(0), delete(0, (0, 0)), delete(1, (0, 0)), merge(0, 1)]
        behind = [revert(0, 1), show(0), revert(0, 2), show(0)]
        self.assertEqual(run(*calls, *behind)[5:], [[2], shown(["b"]), [1], shown(["a", "b"])])

    def test_of_an_independent_change_from_between(self):
        calls = [write(0, ["m"]), write(0, ["a", "m"]), write(0, ["a", "m", "z"]), revert(0, 1), show(0)]
        self.assertEqual(run(*calls)[3:], [[2], shown(["m", "z"])])

    def test_of_a_change_without_dependencies_that_came_first(self):
        calls = [*CONFLICT, revert(0, 0), show(0)]
        self.assertEqual(run(*calls)[4:], [[1], shown(["b"])])

    def test_of_a_change_that_came_by_apply_or_merge(self):
        calls = [branch(0), write(0, ["a"]), apply_change(1, 0), revert(1, 0), merge(1, 0), revert(1, 0), show(1)]
        self.assertEqual(run(*calls)[2:], [[1], [0], [1], [0], shown([])])

    def test_ends_a_conflict(self):
        self.assertEqual(run(*CONFLICT, show(0), revert(0, 1), show(0))[4:], [[-5, 1], [1], shown(["a"])])

    def test_may_bring_conflicts(self):
        calls = [*CONFLICT, delete(0, (1, 0)), show(0), revert(0, 2), show(0), write(0, ["c"])]
        self.assertEqual(run(*calls)[5:], [shown(["a"]), [2], [-5, 1], [-5]])

    def test_other_branches_keep_the_change(self):
        calls = [write(0, ["a"]), branch(0), revert(0, 0), show(1), merge(0, 1), show(0)]
        self.assertEqual(run(*calls)[2:], [[0], shown(["a"]), [1], shown(["a"])])

    def test_the_change_can_be_added_again(self):
        calls = [*CHAIN, revert(0, 2), apply_change(0, 2), show(0)]
        self.assertEqual(run(*calls)[3:], [[2], [3], shown(["a", "b", "c"])])

    def test_the_change_goes_on_to_exist(self):
        calls = [write(0, ["a"]), revert(0, 0), tell_change(0), write(0, ["b"]), apply_change(0, 0)]
        self.assertEqual(run(*calls)[2:], [[1, -1, 0, -2, 0, 1, 1, 97, 0, 0], [1], [2]])

    def test_makes_no_room_for_more_changes(self):
        twelve = [write(0, [str(k)]) for k in range(12)]
        calls = [*twelve, revert(0, 11), write(0, ["x"]), apply_change(0, 11)]
        self.assertEqual(run(*calls)[12:], [[11], [-8], [12]])

    def test_the_text_can_be_written_again(self):
        calls = [write(0, ["a"]), revert(0, 0), write(0, ["a"]), tell_lines(0)]
        self.assertEqual(run(*calls)[1:], [[0], [1], told_lines([(1, 0)], [])])


class NothingWouldChange(unittest.TestCase):
    def test_change_that_the_branch_does_not_have(self):
        self.assertEqual(last(branch(0), write(0, ["a"]), revert(1, 0)), [-6])
        self.assertEqual(last(write(0, ["a"]), revert(0, 0), revert(0, 0)), [-6])

    def test_change_that_does_not_exist(self):
        self.assertEqual(last(revert(0, 0)), [-6])
        self.assertEqual(last(write(0, ["a"]), revert(0, 1)), [-6])
        self.assertEqual(last(write(0, ["a"]), revert(0, 1000000)), [-6])

    def test_comes_ahead_of_what_depends_on_the_change_elsewhere(self):
        self.assertEqual(last(branch(0), *CHAIN, revert(1, 0)), [-6])


class WhatDependsOnIt(unittest.TestCase):
    def test_line_ahead_of_a_hunk(self):
        self.assertEqual(last(write(0, ["a"]), write(0, ["a", "b"]), revert(0, 0)), [-4, 1, 1])

    def test_line_behind_a_hunk(self):
        self.assertEqual(last(write(0, ["a"]), write(0, ["b", "a"]), revert(0, 0)), [-4, 1, 1])

    def test_deleted_line(self):
        self.assertEqual(last(write(0, ["a"]), write(0, []), revert(0, 0)), [-4, 1, 1])
        self.assertEqual(last(write(0, ["a", "b"]), delete(0, (0, 1)), revert(0, 0)), [-4, 1, 1])

    def test_only_changes_that_refer_to_its_own_lines(self):
        self.assertEqual(run(*CHAIN, revert(0, 0), revert(0, 1))[3:], [[-4, 1, 1], [-4, 1, 2]])

    def test_many_in_increasing_order(self):
        calls = [write(0, ["m"]), branch(0), write(1, ["m", "y"]), write(1, ["x", "m", "y"]), write(0, ["m", "z"]),
                 delete(0, (0, 0))]
        self.assertEqual(last(*calls, apply_change(0, 2), apply_change(0, 1), revert(0, 0)), [-4, 4, 1, 2, 3, 4])
        self.assertEqual(last(*calls, merge(1, 0), revert(1, 0)), [-4, 4, 1, 2, 3, 4])

    def test_only_changes_that_the_branch_has(self):
        calls = [write(0, ["a"]), branch(0), branch(0), write(0, ["a", "b"]), write(1, ["c", "a"])]
        behind = [revert(0, 0), revert(1, 0), revert(2, 0), show(2)]
        self.assertEqual(run(*calls, *behind)[5:], [[-4, 1, 1], [-4, 1, 2], [0], shown([])])

    def test_until_these_are_removed(self):
        calls = [write(0, ["m"]), write(0, ["a", "m"]), write(0, ["a", "m", "z"])]
        behind = [revert(0, 0), revert(0, 1), revert(0, 0), revert(0, 2), revert(0, 0)]
        self.assertEqual(run(*calls, *behind)[3:], [[-4, 2, 1, 2], [2], [-4, 1, 2], [1], [0]])

    def test_of_the_example(self):
        calls = [write(0, ["a", "b"]), branch(0), write(0, ["a", "c", "b"]), write(1, ["a", "d", "b"]), merge(0, 1),
                 delete(0, (1, 0))]
        self.assertEqual(run(*calls, revert(0, 1), revert(0, 0))[6:], [[-4, 1, 3], [-4, 2, 1, 2]])
        self.assertEqual(run(*calls, revert(0, 2), show(0))[6:], [[3], shown(["a", "b"])])


if __name__ == "__main__":
    unittest.main()
