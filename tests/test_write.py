"""The call write."""

import unittest

from tests.sessions import branch, delete, last, merge, run, write

CONFLICT = [branch(0), write(0, ["a"]), write(1, ["b"]), merge(0, 1)]
TWELVE = [write(0, [str(k)]) for k in range(12)]


class Numbers(unittest.TestCase):
    def test_first_change(self):
        self.assertEqual(last(write(0, ["a"])), [0])

    def test_all_branches_share_the_numbers(self):
        calls = [write(0, ["a"]), branch(0), write(1, ["b"]), write(0, ["c"]), delete(0, (2, 0)), write(1, [])]
        self.assertEqual(run(*calls), [[0], [1], [1], [2], [3], [4]])

    def test_errors_take_no_number(self):
        calls = [write(0, ["x" * 13]), write(0, []), write(1, ["a"]), write(0, ["a"]), write(0, ["a"]), write(0, [])]
        self.assertEqual(run(*calls), [[-1], [-6], [-2], [0], [-6], [1]])


class Limits(unittest.TestCase):
    def test_no_line(self):
        self.assertEqual(run(write(0, ["a"]), write(0, []), write(0, [])), [[0], [1], [-6]])

    def test_eight_lines_and_nine(self):
        self.assertEqual(last(write(0, list("abcdefgh"))), [0])
        self.assertEqual(last(write(0, list("abcdefghi"))), [-1])
        self.assertEqual(last(write(0, [[]] * 8)), [0])
        self.assertEqual(last(write(0, [[]] * 9)), [-1])

    def test_twelve_bytes_and_thirteen(self):
        self.assertEqual(last(write(0, ["x" * 12])), [0])
        self.assertEqual(last(write(0, ["x" * 13])), [-1])
        self.assertEqual(last(write(0, ["x" * 12] * 8)), [0])

    def test_any_line_can_be_the_long_one(self):
        for place in range(8):
            lines = ["x"] * 8
            lines[place] = "x" * 13
            self.assertEqual(last(write(0, lines)), [-1])

    def test_lines_without_bytes(self):
        calls = [write(0, [[]]), write(0, [[]]), write(0, [[], []]), write(0, [[], []]), write(0, [])]
        self.assertEqual(run(*calls), [[0], [-6], [1], [-6], [2]])

    def test_bytes_above_255(self):
        calls = [write(0, [[256, 1000000]]), write(0, [[0, 1000000]]), write(0, [[0, 1000000]]), write(0, [[0, 64]])]
        self.assertEqual(run(*calls), [[0], [1], [-6], [2]])


class SameText(unittest.TestCase):
    def test_empty_text_on_an_empty_branch(self):
        self.assertEqual(last(write(0, [])), [-6])

    def test_same_lines(self):
        self.assertEqual(last(write(0, ["a", "b"]), write(0, ["a", "b"])), [-6])

    def test_other_texts_are_not_the_same(self):
        for lines in (["b", "a"], ["a"], ["a", "b", "b"], ["ab"], ["a", "b", []], ["a", "bb"]):
            self.assertEqual(last(write(0, ["a", "b"]), write(0, lines)), [1])

    def test_text_of_lines_from_many_changes(self):
        calls = [write(0, ["c"]), write(0, ["a", "c"]), write(0, ["a", "b", "c", "d"]), write(0, ["b", "c", "d"])]
        self.assertEqual(last(*calls, write(0, ["b", "c", "d"])), [-6])

    def test_written_out_and_back(self):
        self.assertEqual(run(write(0, ["a"]), write(0, ["b"]), write(0, ["a"]), write(0, ["a"])), [[0], [1], [2], [-6]])

    def test_text_after_a_merge(self):
        calls = [write(0, ["b"]), branch(0), write(0, ["a", "b"]), write(1, ["b", "c"]), merge(0, 1)]
        self.assertEqual(last(*calls, write(0, ["a", "b", "c"])), [-6])


class Conflicts(unittest.TestCase):
    def test_lines_at_one_position(self):
        self.assertEqual(last(*CONFLICT, write(0, ["c"])), [-5])

    def test_even_equal_lines(self):
        self.assertEqual(last(branch(0), write(0, ["a"]), write(1, ["a"]), merge(0, 1), write(0, ["a"])), [-5])

    def test_the_other_branch_has_none(self):
        self.assertEqual(run(*CONFLICT, write(1, ["c"]), write(0, ["c"]))[4:], [[2], [-5]])

    def test_are_gone_with_a_line(self):
        self.assertEqual(run(*CONFLICT, delete(0, (0, 0)), write(0, ["b"]), write(0, ["c"]))[4:], [[2], [-6], [3]])


class TooMany(unittest.TestCase):
    def test_twelfth_change_and_one_too_many(self):
        self.assertEqual(run(*TWELVE, write(0, ["x"])), [[k] for k in range(12)] + [[-8]])

    def test_changes_of_all_branches_count(self):
        self.assertEqual(run(branch(0), *TWELVE, write(1, ["x"]))[-1], [-8])


class OrderOfErrors(unittest.TestCase):
    def test_limits_ahead_of_conflicts(self):
        self.assertEqual(last(*CONFLICT, write(0, ["x"] * 9)), [-1])
        self.assertEqual(last(*CONFLICT, write(0, ["x" * 13])), [-1])

    def test_limits_ahead_of_too_many(self):
        self.assertEqual(last(*TWELVE, write(0, ["x"] * 9)), [-1])

    def test_conflicts_ahead_of_the_same_text(self):
        self.assertEqual(last(*CONFLICT, write(0, ["a", "b"])), [-5])
        self.assertEqual(last(*CONFLICT, write(0, ["b", "a"])), [-5])

    def test_conflicts_ahead_of_too_many(self):
        calls = CONFLICT + [write(1, [str(k)]) for k in range(10)]
        self.assertEqual(run(*calls, write(1, ["x"]), write(0, ["x"]))[-2:], [[-8], [-5]])

    def test_same_text_ahead_of_too_many(self):
        self.assertEqual(last(*TWELVE, write(0, ["11"])), [-6])
        self.assertEqual(last(branch(0), *TWELVE, write(1, [])), [-6])


class WhatIsRecorded(unittest.TestCase):
    """Seen through delete, which refuses lines that are not visible."""

    def test_kept_lines_stay_the_same_lines(self):
        calls = [write(0, ["a", "b", "c"]), write(0, ["a", "x", "c"])]
        self.assertEqual(last(*calls, delete(0, (0, 0), (0, 2), (1, 0))), [2])
        self.assertEqual(last(*calls, delete(0, (0, 1))), [-3])

    def test_lines_are_numbered_over_all_hunks(self):
        calls = [write(0, ["b"]), write(0, ["a", "b", "c", "d"])]
        self.assertEqual(last(*calls, delete(0, (1, 0)), write(0, ["b", "c", "d"])), [-6])
        self.assertEqual(last(*calls, delete(0, (1, 1)), write(0, ["a", "b", "d"])), [-6])
        self.assertEqual(last(*calls, delete(0, (1, 2)), write(0, ["a", "b", "c"])), [-6])
        self.assertEqual(last(*calls, delete(0, (1, 3))), [-3])

    def test_keeps_as_many_lines_as_possible(self):
        calls = [write(0, ["a", "b", "c"]), write(0, ["b", "c", "a"])]
        self.assertEqual(last(*calls, delete(0, (0, 1), (0, 2), (1, 0))), [2])
        self.assertEqual(last(*calls, delete(0, (0, 0))), [-3])

    def test_deletes_first_when_as_many_can_be_kept(self):
        # The new line then stands behind the deleted one, where the other branch adds one, too.
        calls = [write(0, ["a"]), branch(0), write(0, ["b"]), write(1, ["a", "c"]), merge(0, 1)]
        self.assertEqual(last(*calls, write(0, ["x"])), [-5])
        calls = [write(0, ["a"]), branch(0), write(0, ["b"]), write(1, ["c", "a"]), merge(0, 1)]
        self.assertEqual(last(*calls, write(0, ["c", "b"])), [-6])

    def test_inserts_first_when_more_can_be_kept(self):
        calls = [write(0, ["a"]), branch(0), write(0, ["b", "a"]), write(1, ["a", "c"]), merge(0, 1)]
        self.assertEqual(last(*calls, write(0, ["b", "a", "c"])), [-6])


if __name__ == "__main__":
    unittest.main()
