"""That judge changes nothing, keeps nothing, and prints nothing."""

import contextlib
import io
import unittest

from netrows import D, H, KINDS, L, M, R, T
from netrows import net, part, sample
from restingnets.nets import judge

CASES = [
    ([], [-1]),
    ([8], [0, 8, 0, 0, 8]),
    ([9], [-1]),
    (net(2, part(R, (1, 2)), part(D, (2, 0)), part(T, (1, 0, 2, 0))), [0, 2, 3, 1, 6]),
    (net(1, *[part(D)] * 6), [-1]),
    (net(1, part(L), part(L), part(M, (0, 1))), [0, 1, 3, 0, 3]),
    (net(1, part(L), part(L), part(M, (1, 0), 2)), [-2, 2, 2]),
    (net(1, part(L), part(L), part(M, (1, 0)), part(M, (0, 1))), [-2, 3, 3]),
    (net(1, part(R), part(R, (2, 0))), [-2, 1, 1]),
    (net(1, part(H)), [-2, 0, 3]),
]


class Unchangeable(list):
    """A list that can't be changed, so that not even a change that is undone goes unseen."""

    def refuse(self, *arguments, **named):
        raise AssertionError("the row was changed")

    append = extend = insert = pop = remove = clear = reverse = sort = refuse
    __setitem__ = __delitem__ = __iadd__ = __imul__ = refuse


class Alone(unittest.TestCase):
    def test_the_row_is_the_same_afterwards(self):
        rows = [row for row, expected in CASES] + [sample(kind) for kind in KINDS]
        for row in rows:
            copy = list(row)
            judge(row)
            self.assertEqual(row, copy)

    def test_the_row_is_not_changed_for_a_while_either(self):
        for row, expected in CASES:
            self.assertEqual(judge(Unchangeable(row)), expected)

    def test_whatever_was_asked_before_the_same_is_told(self):
        for before, expected_before in CASES:
            for row, expected in CASES:
                self.assertEqual(judge(before), expected_before)
                self.assertEqual(judge(row), expected)
                self.assertEqual(judge(row), expected)

    def test_what_is_done_with_an_answer_does_not_matter(self):
        for row, expected in CASES:
            answer = judge(row)
            answer[0] = 5
            answer.append(7)
            self.assertEqual(judge(row), expected)

    def test_a_row_that_the_caller_changed_is_judged_as_it_is_now(self):
        row = net(1, part(R))
        self.assertEqual(judge(row), [0, 1, 1, 0, 2])
        row[0] = 3
        self.assertEqual(judge(row), [0, 3, 1, 0, 4])
        row.extend(part(D))
        self.assertEqual(judge(row), [0, 3, 2, 1, 5])

    def test_a_list_of_whole_numbers_is_given_back(self):
        for row, expected in CASES:
            answer = judge(row)
            self.assertIs(type(answer), list)
            self.assertEqual([type(number) for number in answer], [int] * len(expected))

    def test_nothing_is_printed(self):
        printed = io.StringIO()
        with contextlib.redirect_stdout(printed), contextlib.redirect_stderr(printed):
            for row, expected in CASES:
                judge(row)
        self.assertEqual(printed.getvalue(), "")


if __name__ == "__main__":
    unittest.main()
