"""The call show."""

import unittest

from tests.sessions import apply_change, branch, delete, last, merge, revert, run, show, shown, write


class Show(unittest.TestCase):
    def test_empty_branch(self):
        self.assertEqual(last(show(0)), [0])

    def test_lines_behind_their_numbers_of_bytes(self):
        self.assertEqual(last(write(0, ["ab", "c"]), show(0)), [2, 2, 97, 98, 1, 99])

    def test_lines_without_bytes(self):
        self.assertEqual(last(write(0, [[], [7], []]), show(0)), [3, 0, 1, 7, 0])

    def test_bytes_above_255_and_nought(self):
        self.assertEqual(last(write(0, [[0, 256, 1000000]]), show(0)), [1, 3, 0, 256, 1000000])

    def test_equal_lines(self):
        self.assertEqual(last(write(0, ["a", "a", "a"]), show(0)), shown(["a", "a", "a"]))

    def test_most_that_can_be_written(self):
        texts = [[k] * 12 for k in range(8)]
        self.assertEqual(last(write(0, texts), show(0)), shown(texts))

    def test_lines_of_many_changes_in_order(self):
        calls = [write(0, ["c"]), write(0, ["a", "c"]), write(0, ["a", "b", "c", "d"])]
        self.assertEqual(last(*calls, show(0)), shown(["a", "b", "c", "d"]))

    def test_more_lines_than_can_be_written(self):
        calls = [write(0, ["m"]), branch(0), write(0, [*"abcdefg", "m"]), write(1, ["m", *"nopqrst"]), merge(0, 1)]
        self.assertEqual(last(*calls, show(0)), shown("abcdefgmnopqrst"))

    def test_deleted_lines_are_left_out(self):
        self.assertEqual(last(write(0, ["a", "b", "c"]), delete(0, (0, 2), (0, 0)), show(0)), shown(["b"]))
        self.assertEqual(last(write(0, ["a", "b"]), write(0, []), show(0)), [0])

    def test_each_branch_has_its_own_text(self):
        calls = [write(0, ["a"]), branch(0), write(0, ["a", "b"]), write(1, ["c"])]
        self.assertEqual(run(*calls, show(0), show(1))[4:], [shown(["a", "b"]), shown(["c"])])

    def test_changes_nothing(self):
        calls = [write(0, ["a"]), show(0), show(0), write(0, ["a", "b"]), show(0), revert(0, 1), show(0)]
        self.assertEqual(run(*calls), [[0], shown("a"), shown("a"), [1], shown("ab"), [1], shown("a")])


class Conflicts(unittest.TestCase):
    def test_one_pair(self):
        calls = [branch(0), write(0, ["a"]), write(1, ["b"]), merge(0, 1)]
        self.assertEqual(run(*calls, show(0), show(1))[4:], [[-5, 1], shown(["b"])])

    def test_each_pair_counts(self):
        calls = [branch(0), branch(0), write(0, ["a", "b"]), write(1, ["c", "d", "e"]), write(2, ["f"]), merge(0, 1)]
        self.assertEqual(run(*calls, show(0), merge(0, 2), show(0))[6:], [[-5, 6], [1], [-5, 11]])

    def test_equal_lines_are_in_conflict_too(self):
        self.assertEqual(last(branch(0), write(0, ["a"]), write(1, ["a"]), merge(0, 1), show(0)), [-5, 1])

    def test_at_two_places(self):
        calls = [write(0, ["m"]), branch(0), write(0, ["a", "m", "b"]), write(1, ["c", "m", "d"]), apply_change(1, 1)]
        self.assertEqual(last(*calls, show(1)), [-5, 2])

    def test_are_gone_with_all_lines_but_one(self):
        calls = [branch(0), write(0, ["a", "b"]), write(1, ["c"]), merge(0, 1), delete(0, (0, 0)), show(0)]
        self.assertEqual(run(*calls, delete(0, (0, 1)), show(0))[5:], [[-5, 1], [3], shown(["c"])])


if __name__ == "__main__":
    unittest.main()
