"""The call lines."""

import unittest

from tests.sessions import apply_change, branch, delete, last, merge, revert, run, show, tell_lines, told_lines, write


class Lines(unittest.TestCase):
    def test_empty_branch(self):
        self.assertEqual(last(tell_lines(0)), [0, 0])

    def test_change_and_number_of_each_line(self):
        self.assertEqual(last(write(0, ["a", "b"]), tell_lines(0)), [2, 0, 0, 0, 1, 0])

    def test_of_many_changes_in_the_order_of_the_text(self):
        calls = [write(0, ["c", "d"]), write(0, ["a", "c", "b", "d"]), tell_lines(0)]
        self.assertEqual(last(*calls), [4, 1, 0, 0, 0, 1, 1, 0, 1, 0])

    def test_deleted_lines_are_left_out(self):
        calls = [write(0, ["a", "b", "c"]), delete(0, (0, 1)), tell_lines(0), write(0, ["x", "c"]), tell_lines(0)]
        found = run(*calls)
        self.assertEqual(found[2], told_lines([(0, 0), (0, 2)], []))
        self.assertEqual(found[4], told_lines([(2, 0), (0, 2)], []))

    def test_each_branch_has_its_own_lines(self):
        calls = [write(0, ["a"]), branch(0), write(0, ["a", "b"]), write(1, ["c"]), tell_lines(0), tell_lines(1)]
        self.assertEqual(run(*calls)[4:], [told_lines([(0, 0), (1, 0)], []), told_lines([(2, 0)], [])])

    def test_change_that_was_removed(self):
        calls = [write(0, ["a"]), write(0, ["b", "a"]), revert(0, 1), tell_lines(0)]
        self.assertEqual(last(*calls), told_lines([(0, 0)], []))

    def test_changes_nothing(self):
        calls = [branch(0), write(0, ["a"]), write(1, ["b"]), merge(0, 1), tell_lines(0), tell_lines(0), show(0)]
        told = told_lines([(0, 0), (1, 0)], [((0, 0), (1, 0))])
        self.assertEqual(run(*calls)[4:], [told, told, [-5, 1]])


class Conflicts(unittest.TestCase):
    def test_of_the_example(self):
        calls = [write(0, ["a", "b"]), branch(0), write(0, ["a", "c", "b"]), write(1, ["a", "d", "b"]), merge(0, 1)]
        self.assertEqual(last(*calls, tell_lines(0)), [4, 0, 0, 1, 0, 2, 0, 0, 1, 1, 1, 0, 2, 0])

    def test_pairs_by_their_first_then_their_second_lines(self):
        calls = [branch(0), branch(0), write(0, ["a", "b"]), write(1, ["c"]), write(2, ["d"]), merge(0, 2), merge(0, 1)]
        pairs = [((0, 0), (1, 0)), ((0, 0), (2, 0)), ((0, 1), (1, 0)), ((0, 1), (2, 0)), ((1, 0), (2, 0))]
        self.assertEqual(last(*calls, tell_lines(0)), told_lines([(0, 0), (0, 1), (1, 0), (2, 0)], pairs))

    def test_the_earlier_line_in_the_order_comes_first(self):
        # Line 0 of change 2 stands ahead of change 0, so change 1 is put ahead of both.
        calls = [branch(0), write(0, ["a"]), write(1, ["b"]), write(0, ["c", "a"]), merge(0, 1), tell_lines(0)]
        positions = [(1, 0), (2, 0), (0, 0)]
        self.assertEqual(last(*calls), told_lines(positions, [((1, 0), (2, 0)), ((1, 0), (0, 0))]))

    def test_pairs_are_in_the_order_of_the_lines_not_of_their_numbers(self):
        calls = [branch(0), write(0, ["b"]), write(0, ["a", "b"]), write(1, ["c"]), merge(0, 1), tell_lines(0)]
        positions = [(1, 0), (0, 0), (2, 0)]
        self.assertEqual(last(*calls), told_lines(positions, [((1, 0), (2, 0)), ((0, 0), (2, 0))]))

    def test_deleted_lines_are_in_none(self):
        calls = [branch(0), write(0, ["a"]), write(1, ["b"]), merge(0, 1), delete(0, (0, 0)), tell_lines(0)]
        self.assertEqual(last(*calls), told_lines([(1, 0)], []))

    def test_none_across_a_deleted_line(self):
        calls = [write(0, ["m"]), branch(0), write(0, ["a", "m"]), write(1, ["m", "b"]), merge(0, 1), delete(0, (0, 0))]
        self.assertEqual(last(*calls, tell_lines(0)), told_lines([(1, 0), (2, 0)], []))

    def test_at_two_places(self):
        calls = [write(0, ["m"]), branch(0), write(0, ["a", "m", "b"]), write(1, ["c", "m", "d"]), apply_change(0, 2)]
        positions = [(1, 0), (2, 0), (0, 0), (1, 1), (2, 1)]
        pairs = [((1, 0), (2, 0)), ((1, 1), (2, 1))]
        self.assertEqual(last(*calls, tell_lines(0)), told_lines(positions, pairs))

    def test_none_where_a_write_took_two_sides_together(self):
        calls = [branch(0), write(0, ["a"]), write(1, ["b"]), merge(0, 1), delete(0, (1, 0)), write(0, ["a", "c"])]
        self.assertEqual(last(*calls, tell_lines(0)), told_lines([(0, 0), (3, 0)], []))
        # With b back again, it is in conflict with a and with what was written behind a.
        pairs = [((0, 0), (1, 0)), ((1, 0), (3, 0))]
        told = told_lines([(0, 0), (1, 0), (3, 0)], pairs)
        self.assertEqual(last(*calls, revert(0, 2), tell_lines(0)), told)


if __name__ == "__main__":
    unittest.main()
