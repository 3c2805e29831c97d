"""Differences: the edit steps, from the front, and the hunks that they make."""

import itertools
import unittest

from textgrafts.differences import DELETE, INSERT, KEEP, difference, edit_steps

START = (-1, 0)
END = (-2, 0)
SIGNS = {KEEP: "=", DELETE: "-", INSERT: "+"}


def steps(old, new):
    return "".join([SIGNS[step] for step, i, j in edit_steps(list(old), list(new))])


def recorded(old, new):
    """The hunks and deleted positions of change 7 between texts with one sign a line."""
    positions = [(k, 10 + k) for k in range(len(old))]
    change = difference(7, positions, list(old), list(new))
    return [(one.before, one.positions, "".join(one.lines), one.after) for one in change.hunks], change.deleted


def most_kept(old, new):
    """How many lines two texts have in common, found by trying all choices."""
    for count in range(min(len(old), len(new)), 0, -1):
        if set(itertools.combinations(old, count)) & set(itertools.combinations(new, count)):
            return count
    return 0


def texts(most):
    return ["".join(signs) for count in range(most + 1) for signs in itertools.product("ab", repeat=count)]


class Steps(unittest.TestCase):
    def test_equal_lines_are_kept(self):
        self.assertEqual(steps("", ""), "")
        self.assertEqual(steps("abc", "abc"), "===")

    def test_rest_of_the_old_text_is_deleted(self):
        self.assertEqual(steps("abc", "a"), "=--")
        self.assertEqual(steps("abc", ""), "---")

    def test_rest_of_the_new_text_is_inserted(self):
        self.assertEqual(steps("a", "abc"), "=++")
        self.assertEqual(steps("", "abc"), "+++")

    def test_deletes_when_as_many_can_be_kept(self):
        self.assertEqual(steps("a", "b"), "-+")
        self.assertEqual(steps("ab", "ba"), "-=+")
        self.assertEqual(steps("abx", "cdx"), "--++=")

    def test_deletes_when_more_can_be_kept(self):
        self.assertEqual(steps("xab", "abc"), "-==+")

    def test_inserts_when_more_can_be_kept(self):
        self.assertEqual(steps("abc", "xabc"), "+===")
        self.assertEqual(steps("abc", "cab"), "+==-")
        self.assertEqual(steps("abx", "cdabx"), "++===")

    def test_equal_lines_are_kept_at_once(self):
        self.assertEqual(steps("aa", "a"), "=-")
        self.assertEqual(steps("a", "aa"), "=+")
        self.assertEqual(steps("aba", "aa"), "=-=")

    def test_many_changes(self):
        self.assertEqual(steps("abcde", "bxdey"), "-=-+==+")

    def test_whole_lines_are_compared(self):
        found = [step for step, i, j in edit_steps([[97, 98], []], [[97], [98], []])]
        self.assertEqual(found, [DELETE, INSERT, INSERT, KEEP])

    def test_lead_from_the_old_text_to_the_new_one(self):
        for old, new in itertools.product(texts(4), repeat=2):
            behind = {KEEP: (1, 1), DELETE: (1, 0), INSERT: (0, 1)}
            at = (0, 0)
            for step, i, j in edit_steps(list(old), list(new)):
                self.assertEqual((i, j), at)
                self.assertTrue(step != KEEP or old[i] == new[j])
                at = (i + behind[step][0], j + behind[step][1])
            self.assertEqual(at, (len(old), len(new)))

    def test_keep_as_many_lines_as_possible(self):
        for old, new in itertools.product(texts(5), repeat=2):
            self.assertEqual(steps(old, new).count("="), most_kept(old, new), (old, new))

    def test_follow_the_words_at_each_step(self):
        for old, new in itertools.product(texts(4), repeat=2):
            for step, i, j in edit_steps(list(old), list(new)):
                if i < len(old) and j < len(new) and old[i] != new[j]:
                    deleting = most_kept(old[i + 1:], new[j:]) >= most_kept(old[i:], new[j + 1:])
                    self.assertEqual(step, DELETE if deleting else INSERT, (old, new, i, j))


class Hunks(unittest.TestCase):
    def test_into_an_empty_text(self):
        self.assertEqual(recorded("", "ab"), ([(START, [(7, 0), (7, 1)], "ab", END)], []))

    def test_ahead_of_the_first_line(self):
        self.assertEqual(recorded("b", "ab"), ([(START, [(7, 0)], "a", (0, 10))], []))

    def test_behind_the_last_line(self):
        self.assertEqual(recorded("a", "ab"), ([((0, 10), [(7, 0)], "b", END)], []))

    def test_between_two_lines(self):
        self.assertEqual(recorded("ad", "abcd"), ([((0, 10), [(7, 0), (7, 1)], "bc", (1, 11))], []))

    def test_lines_are_numbered_over_all_hunks(self):
        hunks = [
            (START, [(7, 0)], "x", (0, 10)),
            ((0, 10), [(7, 1), (7, 2)], "yz", (1, 11)),
            ((1, 11), [(7, 3)], "w", END),
        ]
        self.assertEqual(recorded("ab", "xayzbw"), (hunks, []))

    def test_behind_a_deleted_line(self):
        self.assertEqual(recorded("a", "b"), ([((0, 10), [(7, 0)], "b", END)], [(0, 10)]))
        self.assertEqual(recorded("abc", "axc"), ([((1, 11), [(7, 0)], "x", (2, 12))], [(1, 11)]))

    def test_behind_the_last_of_some_deleted_lines(self):
        self.assertEqual(recorded("abcd", "axyd"), ([((2, 12), [(7, 0), (7, 1)], "xy", (3, 13))], [(1, 11), (2, 12)]))

    def test_deleted_lines_elsewhere(self):
        hunks = [(START, [(7, 0)], "x", (0, 10)), ((2, 12), [(7, 1)], "z", END)]
        self.assertEqual(recorded("bcd", "xbcz"), (hunks, [(2, 12)]))
        self.assertEqual(recorded("abc", "cab"), ([(START, [(7, 0)], "c", (0, 10))], [(2, 12)]))

    def test_only_deletions(self):
        self.assertEqual(recorded("abc", "b"), ([], [(0, 10), (2, 12)]))

    def test_never_two_between_the_same_lines(self):
        for old, new in itertools.product(texts(4), repeat=2):
            hunks, deleted = recorded(old, new)
            places = [before for before, positions, lines, after in hunks]
            self.assertEqual(len(set(places)), len(places))
            inserted = [position for before, positions, lines, after in hunks for position in positions]
            self.assertEqual(inserted, [(7, k) for k in range(len(inserted))])
            self.assertEqual(deleted, sorted(deleted))


if __name__ == "__main__":
    unittest.main()
