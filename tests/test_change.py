"""The call change."""

import unittest

from tests.sessions import branch, delete, last, merge, revert, run, show, shown, tell_change, told_change, write

START = (-1, 0)
END = (-2, 0)


class Hunks(unittest.TestCase):
    def test_into_an_empty_text(self):
        self.assertEqual(last(write(0, ["a", "bc"]), tell_change(0)), [1, -1, 0, -2, 0, 2, 1, 97, 2, 98, 99, 0, 0])

    def test_between_two_lines(self):
        calls = [write(0, ["a", "b"]), write(0, ["a", "c", "b"]), tell_change(1)]
        self.assertEqual(last(*calls), [1, 0, 0, 0, 1, 1, 1, 99, 0, 1, 0])

    def test_start_and_end(self):
        calls = [write(0, ["a"]), write(0, ["x", "a", "y"]), tell_change(1)]
        hunks = [(START, ["x"], (0, 0)), ((0, 0), ["y"], END)]
        self.assertEqual(last(*calls), told_change(hunks, [], [0]))

    def test_many_from_the_front(self):
        calls = [write(0, ["a", "b", "c"]), write(0, ["x", "a", "y", "z", "b", "c", "w"]), tell_change(1)]
        hunks = [(START, ["x"], (0, 0)), ((0, 0), ["y", "z"], (0, 1)), ((0, 2), ["w"], END)]
        self.assertEqual(last(*calls), told_change(hunks, [], [0]))

    def test_lines_without_bytes_and_bytes_above_255(self):
        calls = [write(0, [[], [256, 1000000], []]), tell_change(0)]
        self.assertEqual(last(*calls), [1, -1, 0, -2, 0, 3, 0, 2, 256, 1000000, 0, 0, 0])

    def test_behind_deleted_lines(self):
        calls = [write(0, ["a", "b", "c"]), write(0, ["x", "c"]), tell_change(1)]
        hunks = [((0, 1), ["x"], (0, 2))]
        self.assertEqual(last(*calls), told_change(hunks, [(0, 0), (0, 1)], [0]))

    def test_behind_the_last_line_that_is_deleted(self):
        calls = [write(0, ["a"]), write(0, ["b"]), tell_change(1)]
        self.assertEqual(last(*calls), told_change([((0, 0), ["b"], END)], [(0, 0)], [0]))

    def test_between_visible_lines_where_lines_were_deleted_before(self):
        calls = [write(0, ["a", "b", "c"]), delete(0, (0, 1)), write(0, ["a", "x", "c"]), tell_change(2)]
        self.assertEqual(last(*calls), told_change([((0, 0), ["x"], (0, 2))], [], [0]))

    def test_into_a_text_whose_lines_were_all_deleted(self):
        calls = [write(0, ["a"]), write(0, []), write(0, ["b"]), tell_change(2)]
        self.assertEqual(last(*calls), told_change([(START, ["b"], END)], [], []))

    def test_ahead_of_a_line_where_more_can_be_kept(self):
        calls = [write(0, ["a", "b", "c"]), write(0, ["c", "a", "b"]), tell_change(1)]
        self.assertEqual(last(*calls), told_change([(START, ["c"], (0, 0))], [(0, 2)], [0]))

    def test_between_lines_of_two_changes(self):
        calls = [write(0, ["a"]), write(0, ["a", "c"]), write(0, ["a", "b", "c"]), tell_change(2)]
        self.assertEqual(last(*calls), told_change([((0, 0), ["b"], (1, 0))], [], [0, 1]))


class Deleted(unittest.TestCase):
    def test_by_write_in_the_order_of_the_steps(self):
        calls = [write(0, ["c", "d"]), write(0, ["a", "b", "c", "d"]), write(0, ["b"]), tell_change(2)]
        self.assertEqual(last(*calls), told_change([], [(1, 0), (0, 0), (0, 1)], [0, 1]))

    def test_by_delete_in_the_given_order(self):
        calls = [write(0, ["a", "b", "c"]), delete(0, (0, 2), (0, 0), (0, 1)), tell_change(1)]
        self.assertEqual(last(*calls), [0, 3, 0, 2, 0, 0, 0, 1, 1, 0])

    def test_of_two_changes_in_the_given_order(self):
        calls = [write(0, ["b"]), write(0, ["a", "b"]), delete(0, (1, 0), (0, 0)), delete(0, (0, 0)), tell_change(2)]
        self.assertEqual(last(*calls), told_change([], [(1, 0), (0, 0)], [0, 1]))

    def test_line_that_another_change_deletes_too(self):
        calls = [write(0, ["a"]), branch(0), delete(0, (0, 0)), write(1, []), merge(0, 1)]
        found = run(*calls, tell_change(1), tell_change(2))[5:]
        self.assertEqual(found, [told_change([], [(0, 0)], [0])] * 2)


class Dependencies(unittest.TestCase):
    def test_none(self):
        self.assertEqual(last(write(0, ["a"]), tell_change(0))[-1:], [0])

    def test_each_once_and_in_increasing_order(self):
        calls = [write(0, ["c"]), write(0, ["b", "c"]), write(0, ["a", "b", "c"]), write(0, ["a", "x", "b", "y", "z"])]
        hunks = [((2, 0), ["x"], (1, 0)), ((0, 0), ["y", "z"], END)]
        self.assertEqual(last(*calls, tell_change(3)), told_change(hunks, [(0, 0)], [0, 1, 2]))

    def test_not_those_of_its_dependencies(self):
        calls = [write(0, ["a"]), write(0, ["a", "b"]), write(0, ["a", "b", "c"]), tell_change(2)]
        self.assertEqual(last(*calls), told_change([((1, 0), ["c"], END)], [], [1]))

    def test_not_on_deletions(self):
        calls = [write(0, ["a", "b"]), delete(0, (0, 1)), write(0, ["a", "c"]), tell_change(2)]
        self.assertEqual(last(*calls), told_change([((0, 0), ["c"], END)], [], [0]))


class WhichChanges(unittest.TestCase):
    def test_that_do_not_exist(self):
        self.assertEqual(last(tell_change(0)), [-3])
        self.assertEqual(last(write(0, ["a"]), tell_change(1)), [-3])
        self.assertEqual(last(write(0, ["a"]), tell_change(1000000)), [-3])

    def test_refused_ones_do_not_exist(self):
        self.assertEqual(run(write(0, []), delete(0), write(3, ["a"]), tell_change(0))[3], [-3])

    def test_of_any_branch(self):
        calls = [branch(0), write(1, ["a"]), tell_change(0)]
        self.assertEqual(last(*calls), told_change([(START, ["a"], END)], [], []))

    def test_of_no_branch_any_more(self):
        calls = [write(0, ["a"]), revert(0, 0), tell_change(0)]
        self.assertEqual(last(*calls), told_change([(START, ["a"], END)], [], []))

    def test_number_of_no_branch(self):
        # Change 1 exists, while branch 1 does not: the call asks for no branch.
        calls = [write(0, ["a"]), write(0, []), tell_change(1), show(1)]
        self.assertEqual(run(*calls)[2:], [told_change([], [(0, 0)], [0]), [-2]])

    def test_stays_the_same_whatever_comes_later(self):
        calls = [write(0, ["a", "b"]), tell_change(0), delete(0, (0, 0)), branch(0), write(1, ["c"]), revert(0, 1)]
        found = run(*calls, tell_change(0), show(0))
        self.assertEqual(found[6], found[1])
        self.assertEqual(found[7], shown(["a", "b"]))


if __name__ == "__main__":
    unittest.main()
