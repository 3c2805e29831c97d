"""The call delete."""

import unittest

from tests.sessions import apply_change, branch, delete, history_after, last, merge, run, write

THREE = [write(0, ["a", "b", "c"])]


class Delete(unittest.TestCase):
    def test_one_line(self):
        self.assertEqual(run(*THREE, delete(0, (0, 1)), write(0, ["a", "c"])), [[0], [1], [-6]])

    def test_all_lines(self):
        self.assertEqual(run(*THREE, delete(0, (0, 0), (0, 1), (0, 2)), write(0, [])), [[0], [1], [-6]])

    def test_lines_in_an_order_of_their_own(self):
        calls = [*THREE, delete(0, (0, 2), (0, 0))]
        self.assertEqual(run(*calls, write(0, ["b"])), [[0], [1], [-6]])
        self.assertEqual(history_after(*calls).changes[1].deleted, [(0, 2), (0, 0)])

    def test_inserts_nothing(self):
        self.assertEqual(history_after(*THREE, delete(0, (0, 1))).changes[1].hunks, [])

    def test_lines_of_two_changes(self):
        calls = [*THREE, write(0, ["a", "x", "b", "c"]), delete(0, (1, 0), (0, 0))]
        self.assertEqual(run(*calls, write(0, ["b", "c"]))[2:], [[2], [-6]])

    def test_on_a_branch_that_has_conflicts(self):
        calls = [branch(0), write(0, ["a", "b"]), write(1, ["c"]), merge(0, 1)]
        self.assertEqual(last(*calls, delete(0, (1, 0)), write(0, ["a", "b"])), [-6])
        self.assertEqual(last(*calls, delete(0, (0, 0)), write(0, ["b", "c"])), [-5])
        self.assertEqual(last(*calls, delete(0, (0, 1), (0, 0)), write(0, ["c"])), [-6])

    def test_other_branches_keep_the_line(self):
        calls = [*THREE, branch(0), delete(0, (0, 1)), write(1, ["a", "b", "c"]), apply_change(1, 1)]
        self.assertEqual(run(*calls, write(1, ["a", "c"]))[2:], [[1], [-6], [2], [-6]])

    def test_deleted_twice_on_two_branches(self):
        calls = [*THREE, branch(0), delete(0, (0, 1)), delete(1, (0, 1)), merge(0, 1), write(0, ["a", "c"])]
        self.assertEqual(run(*calls)[2:], [[1], [2], [1], [-6]])

    def test_twelfth_change_and_one_too_many(self):
        eleven = [write(0, ["a", str(k)]) for k in range(11)]
        self.assertEqual(run(*eleven, delete(0, (0, 0)), delete(0, (10, 0)))[11:], [[11], [-8]])


class NotThere(unittest.TestCase):
    def test_no_line(self):
        self.assertEqual(last(delete(0)), [-3])
        self.assertEqual(last(*THREE, delete(0)), [-3])

    def test_line_given_twice(self):
        self.assertEqual(last(*THREE, delete(0, (0, 1), (0, 1))), [-3])
        self.assertEqual(last(*THREE, delete(0, (0, 1), (0, 0), (0, 1))), [-3])

    def test_line_that_was_deleted(self):
        self.assertEqual(last(*THREE, delete(0, (0, 1)), delete(0, (0, 1))), [-3])
        self.assertEqual(last(*THREE, write(0, ["a", "c"]), delete(0, (0, 0), (0, 1))), [-3])

    def test_line_that_the_branch_does_not_have(self):
        self.assertEqual(last(branch(0), *THREE, delete(1, (0, 0))), [-3])

    def test_line_that_does_not_exist(self):
        self.assertEqual(last(*THREE, delete(0, (0, 3))), [-3])
        self.assertEqual(last(*THREE, delete(0, (1, 0))), [-3])
        self.assertEqual(last(*THREE, delete(0, (1, 2))), [-3])
        self.assertEqual(last(*THREE, delete(0, (0, 0), (1000000, 1000000))), [-3])
        self.assertEqual(last(delete(0, (0, 0))), [-3])

    def test_numbers_of_a_line_the_other_way_round(self):
        self.assertEqual(last(*THREE, delete(0, (1, 0), (0, 0))), [-3])

    def test_change_without_lines(self):
        self.assertEqual(last(*THREE, delete(0, (0, 0)), delete(0, (1, 0))), [-3])

    def test_comes_ahead_of_too_many(self):
        twelve = [write(0, [str(k)]) for k in range(12)]
        calls = [*twelve, delete(0), delete(0, (11, 0), (11, 0)), delete(0, (0, 0)), delete(0, (11, 0))]
        self.assertEqual(run(*calls)[12:], [[-3], [-3], [-3], [-8]])


if __name__ == "__main__":
    unittest.main()
