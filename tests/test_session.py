"""The interface: how calls and answers lie in lists, and what an error leaves alone."""

import contextlib
import io
import unittest

from tests.sessions import apply_change, branch, delete, joined, last, merge, revert, run, show, split, tell_change
from tests.sessions import tell_lines, write
from textgrafts.session import answers

EXAMPLE = [
    1, 0, 2, 4, 1, 97, 1, 98,
    0, 0,
    1, 0, 3, 6, 1, 97, 1, 99, 1, 98,
    1, 1, 3, 6, 1, 97, 1, 100, 1, 98,
    4, 0, 1,
    7, 0,
    6, 0,
    2, 0, 2, 1, 0,
    6, 0,
    5, 0, 1,
    8, 2,
]
ANSWERED = [
    1, 0,
    1, 1,
    1, 1,
    1, 2,
    1, 1,
    14, 4, 0, 0, 1, 0, 2, 0, 0, 1, 1, 1, 0, 2, 0,
    2, -5, 1,
    1, 3,
    7, 3, 1, 97, 1, 100, 1, 98,
    3, -4, 1, 3,
    11, 1, 0, 0, 0, 1, 1, 1, 100, 0, 1, 0,
]


def refuse(*handed):
    raise AssertionError("the list that was handed in is changed")


class Unchanging(list):
    """A list that can't be changed, not for a while either."""

    append = clear = extend = insert = pop = remove = reverse = sort = refuse
    __setitem__ = __delitem__ = __iadd__ = __imul__ = refuse


class Lists(unittest.TestCase):
    def test_example(self):
        self.assertEqual(answers(EXAMPLE), ANSWERED)

    def test_example_without_conflict_at_the_end(self):
        calls = EXAMPLE + write(0, ["a", "d", "b"]) + write(0, ["a"])
        self.assertEqual(split(answers(calls))[-2:], [[-6], [4]])

    def test_error_with_more_fields_is_counted_whole(self):
        calls = [branch(0), write(0, ["a"]), write(0, ["a", "b"]), apply_change(1, 1), revert(0, 0)]
        self.assertEqual(answers(joined(calls)), [1, 1, 1, 0, 1, 1, 3, -4, 1, 0, 3, -4, 1, 1])
        calls = [branch(0), write(0, ["a"]), write(1, ["b"]), merge(0, 1), show(0), write(0, ["c"])]
        self.assertEqual(answers(joined(calls))[8:], [2, -5, 1, 1, -5])

    def test_list_handed_in_stays_as_it_is(self):
        calls = EXAMPLE + write(0, ["a"] * 9) + delete(0, (9, 9)) + apply_change(7, 7) + merge(1, 0)
        calls += revert(0, 3) + tell_lines(0) + show(0) + tell_change(3) + tell_change(9)
        before = list(calls)
        answers(calls)
        self.assertEqual(calls, before)

    def test_list_handed_in_is_not_changed_for_a_while_either(self):
        self.assertEqual(answers(Unchanging(EXAMPLE)), ANSWERED)

    def test_prints_nothing(self):
        printed = io.StringIO()
        with contextlib.redirect_stdout(printed), contextlib.redirect_stderr(printed):
            answers(list(EXAMPLE))
        self.assertEqual(printed.getvalue(), "")

    def test_answers_are_plain_numbers_in_a_new_list(self):
        calls = list(EXAMPLE)
        answered = answers(calls)
        self.assertIs(type(answered), list)
        self.assertIsNot(answered, calls)
        self.assertEqual({type(number) for number in answered}, {int})

    def test_list_of_answers_can_be_changed_without_trace(self):
        calls = list(EXAMPLE)
        answers(calls).clear()
        self.assertEqual(answers(calls), ANSWERED)

    def test_list_handed_in_can_be_changed_afterwards(self):
        calls = list(EXAMPLE)
        answered = answers(calls)
        calls.clear()
        self.assertEqual(answered, ANSWERED)

    def test_nothing_is_kept_from_one_list_to_the_next(self):
        first = answers(list(EXAMPLE))
        calls = [branch(1), apply_change(0, 0), write(0, []), revert(0, 0), show(0), tell_lines(0), tell_change(0)]
        self.assertEqual(run(*calls), [[-2], [-3], [-6], [-6], [0], [0, 0], [-3]])
        self.assertEqual(run(write(0, ["z"]), show(0), merge(0, 1)), [[0], [1, 1, 122], [-2]])
        self.assertEqual(answers(list(EXAMPLE)), first)

    def test_limits_are_not_used_up_by_earlier_lists(self):
        calls = [branch(0)] * 4 + [write(0, [str(k)]) for k in range(12)]
        self.assertEqual(run(*calls), run(*calls))

    def test_begins_with_one_empty_branch(self):
        self.assertEqual(last(write(0, [])), [-6])
        self.assertEqual(last(merge(0, 0)), [0])
        self.assertEqual(last(merge(0, 1)), [-2])
        self.assertEqual(last(apply_change(0, 0)), [-3])
        self.assertEqual(last(show(0)), [0])
        self.assertEqual(last(tell_lines(0)), [0, 0])
        self.assertEqual(last(show(1)), [-2])
        self.assertEqual(last(tell_change(0)), [-3])

    def test_each_call_alone(self):
        for call, answer in (
            (branch(0), [1]), (write(0, ["a"]), [0]), (delete(0), [-3]), (apply_change(0, 0), [-3]), (merge(0, 0), [0]),
            (revert(0, 0), [-6]), (show(0), [0]), (tell_lines(0), [0, 0]), (tell_change(0), [-3]),
        ):
            self.assertEqual(answers(call), [len(answer)] + answer)

    def test_calls_in_any_order(self):
        calls = [tell_change(0), show(0), revert(0, 0), write(0, []), tell_lines(0), write(0, ["a"]), tell_change(0)]
        found = [[-3], [0], [-6], [-6], [0, 0], [0], [1, -1, 0, -2, 0, 1, 1, 97, 0, 0]]
        self.assertEqual(run(*calls), found)

    def test_thirty_calls(self):
        self.assertEqual(run(*[merge(0, 0)] * 30), [[0]] * 30)

    def test_longest_rows_are_read_to_their_end(self):
        calls = [
            write(0, [[]] * 398),
            write(0, [[1000000] * 397]),
            delete(0, *[(k, k) for k in range(199)]),
            write(9, ["a", "bc"]),
            delete(9, (0, 0), (0, 1)),
            branch(0),
        ]
        self.assertEqual(run(*calls), [[-1], [-1], [-3], [-2], [-2], [1]])

    def test_largest_numbers(self):
        most = 1000000
        calls = [branch(most), write(most, ["a"]), delete(most, (0, 0)), apply_change(most, 0), merge(most, 0),
                 merge(0, most), revert(most, 0), show(most), tell_lines(most), apply_change(0, most),
                 delete(0, (most, most)), tell_change(most), revert(0, most)]
        self.assertEqual(run(*calls), [[-2]] * 9 + [[-3]] * 3 + [[-6]])


class MissingBranches(unittest.TestCase):
    def test_is_looked_for_ahead_of_all_else(self):
        wrong = [branch(5), write(5, ["a"] * 9), write(5, []), delete(5), delete(5, (0, 0), (0, 0)),
                 apply_change(5, 99), apply_change(5, 0), merge(5, 0), merge(0, 5), merge(5, 5), revert(5, 99),
                 revert(5, 0), show(5), tell_lines(5)]
        full = [branch(0)] * 4 + [write(0, ["a"]), write(0, ["a", "b"])]
        self.assertEqual(run(*full, *wrong)[6:], [[-2]] * len(wrong))

    def test_is_looked_for_ahead_of_too_many_changes(self):
        full = [write(0, [str(k)]) for k in range(12)]
        self.assertEqual(run(*full, write(1, ["x"]), delete(1, (11, 0)))[12:], [[-2]] * 2)

    def test_the_first_number_that_no_branch_has(self):
        self.assertEqual(run(merge(0, 1), branch(0), merge(0, 1), merge(0, 2)), [[-2], [1], [0], [-2]])
        self.assertEqual(run(show(1), branch(0), show(1), show(2)), [[-2], [1], [0], [-2]])
        self.assertEqual(run(tell_lines(1), branch(0), tell_lines(1), tell_lines(2)), [[-2], [1], [0, 0], [-2]])
        self.assertEqual(run(revert(1, 0), branch(0), revert(1, 0), revert(2, 0)), [[-2], [1], [-6], [-2]])

    def test_change_asks_for_no_branch(self):
        found = run(*[write(0, [str(k)]) for k in range(12)], tell_change(11), tell_change(5), tell_change(12))[12:]
        self.assertEqual([answer[0] for answer in found], [1, 1, -3])


class ErrorsLeaveTheSessionAlone(unittest.TestCase):
    def same_with_and_without(self, ahead, wrong, code, behind):
        """The calls behind are answered alike, whether the wrong ones ran or not."""
        answered = run(*ahead, *wrong, *behind)
        among = answered[len(ahead):len(ahead) + len(wrong)]
        self.assertEqual([answer[0] for answer in among], [code] * len(wrong))
        self.assertEqual(answered[len(ahead) + len(wrong):], run(*ahead, *behind)[len(ahead):])

    def probes(self):
        return [show(0), show(1), tell_lines(0), tell_lines(1), write(0, ["a", "b"]), merge(0, 1), apply_change(1, 1),
                write(1, ["z"]), delete(0, (0, 0)), write(0, ["q"]), branch(0), merge(2, 1), merge(1, 0),
                tell_change(3), tell_change(5), tell_lines(1), revert(1, 2)]

    def test_each_error(self):
        ahead = [write(0, ["a"]), branch(0), write(0, ["a", "b"]), write(0, ["a", "b", "c"])]
        for wrong, code in (
            ([write(1, ["x"] * 9), write(1, ["x" * 13])], -1),
            ([branch(2), write(2, ["x"]), delete(2, (0, 0)), apply_change(2, 0), merge(1, 2), merge(2, 1),
              revert(2, 0), show(2), tell_lines(2)], -2),
            ([delete(1), delete(1, (0, 0), (0, 0)), delete(1, (0, 0), (1, 0)), apply_change(1, 3),
              tell_change(3), tell_change(1000000)], -3),
            ([apply_change(1, 2), revert(0, 0), revert(0, 1)], -4),
            ([write(1, ["a"]), apply_change(1, 0), revert(1, 1), revert(0, 3)], -6),
        ):
            with self.subTest(code=code):
                self.same_with_and_without(ahead, wrong, code, self.probes())

    def test_conflicts(self):
        ahead = [branch(0), write(0, ["a"]), write(1, ["b"]), merge(0, 1)]
        self.same_with_and_without(ahead, [write(0, ["x"]), write(0, []), show(0)], -5, self.probes())

    def test_too_many_changes(self):
        ahead = [branch(0)] + [write(0, [str(k)]) for k in range(12)]
        behind = [merge(1, 0), write(0, ["11"]), write(1, ["11"]), apply_change(0, 12), branch(1),
                  tell_change(11), tell_change(12), tell_lines(0), revert(0, 11), show(0)]
        self.same_with_and_without(ahead, [write(0, ["x"]), write(1, ["y"]), delete(0, (11, 0))], -8, behind)

    def test_too_many_branches(self):
        ahead = [write(0, ["a"])] + [branch(0)] * 4
        behind = [merge(4, 5), merge(4, 3), write(4, ["a"]), write(4, ["b"]), show(4), show(5)]
        self.same_with_and_without(ahead, [branch(0), branch(4)], -8, behind)


if __name__ == "__main__":
    unittest.main()
