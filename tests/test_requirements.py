"""The requirements 1 to 5, seen through the answers of sessions alone."""

import itertools
import unittest

from tests.drawing import drawn_calls
from tests.sessions import apply_change, branch, delete, last, merge, revert, run, show, shown, tell_change, tell_lines
from tests.sessions import told_lines, write

SESSIONS = 60


def asked(calls, questions):
    """What the questions are answered behind the calls."""
    return run(*calls, *questions)[len(calls):]


def parts(row, size):
    return [tuple(row[k:k + size]) for k in range(0, len(row), size)]


def relations(answer):
    """From an answer of lines: for each pair of lines, which of them comes first, or that neither does."""
    count = answer[0]
    positions = parts(answer[1:1 + 2 * count], 2)
    found = dict.fromkeys(itertools.combinations(positions, 2), "precedes")
    for pair in parts(answer[2 + 2 * count:], 4):
        found[(pair[:2], pair[2:])] = "conflict"
    both_ways = {}
    for (one, other), relation in found.items():
        both_ways[(one, other)] = relation
        both_ways[(other, one)] = relation if relation == "conflict" else "is preceded"
    return both_ways


def taken_rows(row, count):
    """The first rows with their lengths ahead of them, and what comes behind."""
    found = []
    for k in range(count):
        found.append(row[1:1 + row[0]])
        row = row[1 + row[0]:]
    return found, row


def parsed_change(answer):
    """From an answer of change: the inserted lines, the deleted positions and the dependencies."""
    count, row = answer[0], answer[1:]
    inserted = []
    for k in range(count):
        lines, row = taken_rows(row[5:], row[4])
        inserted += lines
    deleted = parts(row[1:1 + 2 * row[0]], 2)
    row = row[1 + 2 * row[0]:]
    return inserted, deleted, row[1:]


def most_kept(old, new):
    """How many lines two texts have in common, found by trying all choices."""
    old, new = [tuple(line) for line in old], [tuple(line) for line in new]
    for count in range(min(len(old), len(new)), 0, -1):
        if set(itertools.combinations(old, count)) & set(itertools.combinations(new, count)):
            return count
    return 0


class WhatPrecedesWhat(unittest.TestCase):
    """Requirement 1."""

    def assert_same_everywhere(self, told):
        known = {}
        for answer in told:
            for pair, relation in relations(answer).items():
                self.assertEqual(known.setdefault(pair, relation), relation, pair)
        return known

    def test_with_more_and_fewer_changes(self):
        calls = [write(0, ["m", "n"]), branch(0), write(0, ["m", "a", "n"]), write(1, ["m", "b", "n"]), branch(0),
                 merge(0, 1), delete(0, (0, 0)), merge(2, 1), delete(2, (2, 0))]
        told = asked(calls, [tell_lines(0), tell_lines(1), tell_lines(2), revert(2, 4), tell_lines(2)])
        known = self.assert_same_everywhere(told[:3] + told[4:])
        self.assertEqual(known[((1, 0), (2, 0))], "conflict")
        self.assertEqual(known[((1, 0), (0, 1))], "precedes")
        self.assertEqual(known[((1, 0), (0, 0))], "is preceded")

    def test_after_the_line_between_was_deleted(self):
        calls = [write(0, ["m"]), branch(0), write(0, ["a", "m"]), write(1, ["m", "b"]), merge(1, 0), branch(1),
                 delete(1, (0, 0)), write(1, ["a", "c", "b"])]
        known = self.assert_same_everywhere(asked(calls, [tell_lines(0), tell_lines(1), tell_lines(2)]))
        self.assertEqual(known[((1, 0), (2, 0))], "precedes")
        self.assertEqual(known[((4, 0), (2, 0))], "precedes")

    def test_conflicts_stay_when_a_line_is_written_beside_one_of_the_two(self):
        calls = [branch(0), write(0, ["a"]), write(1, ["b"]), merge(0, 1), tell_lines(0), delete(0, (1, 0)),
                 write(0, ["c", "a"]), revert(0, 2), tell_lines(0)]
        found = run(*calls)
        known = self.assert_same_everywhere([found[4], found[8]])
        self.assertEqual(known[((0, 0), (1, 0))], "conflict")

    def test_in_drawn_sessions_at_any_time(self):
        for seed in range(SESSIONS):
            calls, branches, changes = drawn_calls(seed, 25)
            told = []
            for count in range(1, 26):
                answers = asked(calls[:count], [tell_lines(number) for number in range(branches)])
                told += [answer for answer in answers if answer != [-2]]
            self.assert_same_everywhere(told)


class TextAfterWrite(unittest.TestCase):
    """Requirement 2."""

    def test_is_the_given_one(self):
        calls = [write(0, ["a", "b", "c"])]
        for texts in (["c", "b", "a"], [], ["a"], ["x", "a", "b", "c", "y"], ["b", "b"], ["a", "x", "x", "c"]):
            found = asked(calls, [write(0, texts), show(0), tell_lines(0)])
            self.assertEqual(found[:2], [[1], shown(texts)])
            self.assertEqual((found[2][0], found[2][-1]), (len(texts), 0))

    def test_after_a_conflict_was_resolved(self):
        calls = [branch(0), write(0, ["a", "b"]), write(1, ["c"]), merge(0, 1), delete(0, (0, 1), (1, 0))]
        found = asked(calls, [write(0, ["c", "a", "b"]), show(0), tell_lines(0)])
        self.assertEqual(found, [[3], shown(["c", "a", "b"]), told_lines([(3, 0), (0, 0), (3, 1)], [])])

    def test_over_deleted_lines(self):
        calls = [write(0, ["a", "b"]), delete(0, (0, 0), (0, 1)), write(0, ["c"]), write(0, ["b", "c", "a"]), show(0)]
        self.assertEqual(last(*calls), shown(["b", "c", "a"]))

    def test_in_drawn_sessions(self):
        tried = 0
        for seed in range(SESSIONS):
            calls, branches, changes = drawn_calls(seed, 28)
            for count, call in enumerate(calls, 1):
                if call[0] == 1:
                    found = asked(calls[:count - 1], [call, show(call[1]), tell_lines(call[1])])
                    if found[0][0] >= 0:
                        self.assertEqual(found[1], [call[2]] + call[4:])
                        self.assertEqual(found[2][1 + 2 * call[2]:], [0])
                        tried += 1
        self.assertGreater(tried, SESSIONS)


class TheOrderOfAdding(unittest.TestCase):
    """Requirement 3."""

    def assert_one_content(self, calls, changes, content):
        """Adding the changes to branch 4 makes the content, in whatever order."""
        for order in itertools.permutations(changes):
            added = [apply_change(4, change) for change in order]
            found = asked(calls, [*added, tell_lines(4), show(4)])
            self.assertEqual(found[:len(added)], [[k] for k in range(found[0][0], found[0][0] + len(added))])
            self.assertEqual(found[len(added):], content, order)

    def test_of_changes_at_several_places(self):
        calls = [write(0, ["m", "n"]), *[branch(0)] * 4, write(0, ["a", "m", "n"]), write(1, ["m", "b", "n"]),
                 write(2, ["m", "n", "c"]), write(3, ["n"])]
        positions = [(1, 0), (2, 0), (0, 1), (3, 0)]
        self.assert_one_content(calls, [1, 2, 3, 4], [told_lines(positions, []), shown(["a", "b", "n", "c"])])

    def test_of_changes_in_conflict(self):
        calls = [*[branch(0)] * 4, write(0, ["a"]), write(1, ["b", "b"]), write(2, []), write(3, ["c"])]
        pairs = [((0, 0), (1, 0)), ((0, 0), (1, 1)), ((0, 0), (2, 0)), ((1, 0), (2, 0)), ((1, 1), (2, 0))]
        told = told_lines([(0, 0), (1, 0), (1, 1), (2, 0)], pairs)
        self.assert_one_content(calls, [0, 1, 2], [told, [-5, 5]])

    def test_of_deletions_of_one_line(self):
        calls = [write(0, ["a", "b", "c"]), *[branch(0)] * 4, delete(0, (0, 1)), write(1, ["a"]), delete(2, (0, 0)),
                 write(3, ["a", "x", "b", "c"])]
        self.assert_one_content(calls, [1, 2, 3, 4], [told_lines([(4, 0)], []), shown(["x"])])

    def test_of_merges(self):
        calls = [write(0, ["m"]), *[branch(0)] * 3, write(0, ["a", "m"]), write(1, ["m", "b"]), write(2, ["m", "c"])]
        found = [asked(calls, [*[merge(3, number) for number in order], tell_lines(3), show(3)])
                 for order in itertools.permutations(range(3))]
        told = told_lines([(1, 0), (0, 0), (2, 0), (3, 0)], [((2, 0), (3, 0))])
        self.assertEqual(found, [[[1], [1], [1], told, [-5, 1]]] * 6)

    def test_with_removals_between(self):
        calls = [*[branch(0)] * 3, write(0, ["a"]), write(1, ["b"]), write(2, ["c"])]
        plain = asked(calls, [merge(0, 1), merge(0, 2), tell_lines(0)])[-1]
        between = [merge(0, 2), revert(0, 0), merge(0, 1), revert(0, 2), apply_change(0, 0), apply_change(0, 2)]
        self.assertEqual(asked(calls, [*between, tell_lines(0)]), [[1], [1], [1], [1], [2], [3], plain])

    def test_added_and_removed_again(self):
        calls = [write(0, ["m"]), branch(0), branch(0), write(0, ["a", "m", "z"]), write(1, ["b", "m"]), write(2, [])]
        for change in (2, 3):
            questions = [tell_lines(0), show(0), merge(1, 0)]
            there_and_back = [apply_change(0, change), revert(0, change)]
            self.assertEqual(asked(calls, there_and_back), [[3], [2]])
            self.assertEqual(asked(calls, there_and_back + questions)[2:], asked(calls, questions))

    def test_removed_and_added_again(self):
        calls = [write(0, ["m"]), write(0, ["a", "m"]), write(0, ["a", "m", "z"]), delete(0, (0, 0))]
        for change in (1, 2, 3):
            questions = [tell_lines(0), show(0), tell_change(change), merge(0, 0)]
            there_and_back = [revert(0, change), apply_change(0, change)]
            self.assertEqual(asked(calls, there_and_back), [[3], [4]])
            self.assertEqual(asked(calls, there_and_back + questions)[2:], asked(calls, questions))

    def test_added_and_removed_again_in_drawn_sessions(self):
        tried = 0
        for seed in range(SESSIONS):
            calls, branches, changes = drawn_calls(seed, 24)
            for number, change in itertools.product(range(branches), range(changes)):
                before, added, removed, after, shown_after = asked(
                    calls, [tell_lines(number), apply_change(number, change), revert(number, change),
                            tell_lines(number), show(number)])
                if added[0] >= 0:
                    self.assertEqual((removed, after), ([added[0] - 1], before))
                    self.assertEqual(shown_after, asked(calls, [show(number)])[0])
                    tried += 1
        self.assertGreater(tried, SESSIONS)


class Dependencies(unittest.TestCase):
    """Requirement 4."""

    def has(self, calls, number, change):
        """Whether the branch has the change: adding it would change nothing."""
        return asked(calls, [apply_change(number, change)]) == [[-6]]

    def test_nothing_is_added_ahead_of_them(self):
        calls = [branch(0), write(0, ["a"]), write(0, ["a", "b"]), write(0, ["a", "b", "c"])]
        added = [apply_change(1, 2), apply_change(1, 1), apply_change(1, 0), apply_change(1, 2), apply_change(1, 1),
                 apply_change(1, 2), show(1)]
        found = [[-4, 1, 1], [-4, 1, 0], [1], [-4, 1, 1], [2], [3], shown(["a", "b", "c"])]
        self.assertEqual(asked(calls, added), found)

    def test_none_is_removed_ahead_of_what_needs_it(self):
        calls = [write(0, ["a"]), write(0, ["a", "b"]), write(0, ["a", "b", "c"])]
        removed = [revert(0, 0), revert(0, 1), revert(0, 2), revert(0, 0), revert(0, 1), revert(0, 0), show(0)]
        found = [[-4, 1, 1], [-4, 1, 2], [2], [-4, 1, 1], [1], [0], [0]]
        self.assertEqual(asked(calls, removed), found)

    def test_merge_brings_them_along(self):
        calls = [branch(0), write(1, ["a"]), write(1, ["a", "b"]), delete(1, (0, 0)), merge(0, 1)]
        self.assertEqual([self.has(calls, 0, change) for change in range(4)], [True, True, True, False])

    def test_in_drawn_sessions(self):
        for seed in range(SESSIONS):
            calls, branches, changes = drawn_calls(seed, 29)
            needed = [parsed_change(asked(calls, [tell_change(change)])[0])[2] for change in range(changes)]
            for number in range(branches):
                had = [change for change in range(changes) if self.has(calls, number, change)]
                for change in had:
                    self.assertLessEqual(set(needed[change]), set(had))


class KeptLines(unittest.TestCase):
    """Requirement 5."""

    def kept(self, old, new):
        """How many lines the change of write keeps, by what it deletes and by what it inserts."""
        inserted, deleted, needed = parsed_change(last(write(0, old), write(0, new), tell_change(1)))
        return len(old) - len(deleted), len(new) - len(inserted)

    def test_as_many_as_possible(self):
        for old, new, count in (("abc", "cab", 2), ("abcd", "dcba", 1), ("abab", "baba", 3), ("abc", "xyz", 0),
                                ("aab", "aba", 2), ("abcabba", "cbabac", 4), ("abcdefgh", "hgabcfed", 4)):
            self.assertEqual(self.kept(old, new), (count, count), (old, new))

    def test_for_all_short_texts(self):
        texts = ["".join(signs) for count in range(1, 5) for signs in itertools.product("ab", repeat=count)]
        for old, new in itertools.permutations(texts, 2):
            self.assertEqual(self.kept(old, new), (most_kept(old, new),) * 2, (old, new))

    def test_kept_lines_stay_the_same_lines(self):
        calls = [write(0, ["a", "b", "c"]), write(0, ["b", "x", "c", "a"]), tell_lines(0)]
        self.assertEqual(last(*calls), told_lines([(0, 1), (1, 0), (0, 2), (1, 1)], []))

    def test_in_drawn_sessions(self):
        tried = 0
        for seed in range(SESSIONS):
            calls, branches, changes = drawn_calls(seed, 28)
            for count, call in enumerate(calls):
                if call[0] != 1:
                    continue
                old, made = asked(calls[:count], [show(call[1]), call])
                if made[0] >= 0:
                    told = asked(calls[:count], [call, tell_change(made[0])])[1]
                    inserted, deleted, needed = parsed_change(told)
                    most = most_kept(taken_rows(old[1:], old[0])[0], taken_rows(call[4:], call[2])[0])
                    self.assertEqual((old[0] - len(deleted), call[2] - len(inserted)), (most, most))
                    tried += 1
        self.assertGreater(tried, SESSIONS)


if __name__ == "__main__":
    unittest.main()
