"""That no call changes, keeps or prints anything."""

import contextlib
import io
import itertools
import random
import unittest

from netrows import D, H, KINDS, L, M, R, T, V
from netrows import Unchangeable, net, part, sample
from restingnets.nets import at, judge, opened, point, rank, slope

DIVIDER = net(2, part(V, (1, 0), 12), part(R, (1, 2), 3), part(R, (2, 0), 1))
LAMP = net(2, part(V, (1, 0), 5), part(R, (1, 2), 2), part(D, (2, 0), 1), part(D, (0, 2), 1))
FIGHT = net(1, part(V, (1, 0), 1), part(V, (1, 0), 2))
NO_SQUARE = net(1, part(L), part(L), part(M, (1, 0), 2))

# A call, what it is asked besides the row, the row, and what it answers.
CASES = [
    (judge, (), [], [-1]),
    (judge, (), [8], [0, 8, 0, 0, 8]),
    (judge, (), [9], [-1]),
    (judge, (), net(2, part(R, (1, 2)), part(D, (2, 0)), part(T, (1, 0, 2, 0))), [0, 2, 3, 1, 6]),
    (judge, (), net(1, *[part(D)] * 6), [-1]),
    (judge, (), net(1, part(L), part(L), part(M, (0, 1))), [0, 1, 3, 0, 3]),
    (judge, (), NO_SQUARE, [-2, 2, 2]),
    (judge, (), net(1, part(L), part(L), part(M, (1, 0)), part(M, (0, 1))), [-2, 3, 3]),
    (judge, (), net(1, part(R), part(R, (2, 0))), [-2, 1, 1]),
    (judge, (), net(1, part(H)), [-2, 0, 3]),
    (point, (), [9], [-1]),
    (point, (), NO_SQUARE, [-2, 2, 2]),
    (point, (), FIGHT, [-4]),
    (point, (), DIVIDER, [0]),
    (point, (), LAMP, [0, 1, 0]),
    (at, (0, 0), [9], [-1]),
    (at, (1, 0), NO_SQUARE, [-2, 2, 2]),
    (at, (4, 0), FIGHT, [-3]),
    (at, (0, 1), FIGHT, [-4]),
    (at, (0, 2), DIVIDER, [0, 3, 1]),
    (at, (3, 0), DIVIDER, [0, -36, 1]),
    (at, (1, 2), LAMP, [0, 2, 1]),
    (slope, (0, 0, 0), [9], [-1]),
    (slope, (1, 0, 0), NO_SQUARE, [-2, 2, 2]),
    (slope, (3, 0, 0), FIGHT, [-3]),
    (slope, (0, 1, 0), FIGHT, [-4]),
    (slope, (0, 2, 1), DIVIDER, [0, -3, 4]),
    (slope, (1, 2, 2), LAMP, [0, -1, 2]),
    (opened, (0, 0), [9], [-1]),
    (opened, (1, 0), NO_SQUARE, [-2, 2, 2]),
    (opened, (2, 0), FIGHT, [-3]),
    (opened, (1, 0), FIGHT, [-4]),
    (opened, (2, 0), DIVIDER, [0, 3, 1, 3, 4]),
    (opened, (1, 2), LAMP, [0, 4, 1, 0, 1]),
    (rank, (), [9], [-1]),
    (rank, (), NO_SQUARE, [-2, 2, 2]),
    (rank, (), FIGHT, [0, 3, 2, 0]),
    (rank, (), DIVIDER, [0, 5, 5, 1]),
    (rank, (), LAMP, [0, 6, 6, 1]),
]
CALLS = [
    (judge, ()), (point, ()), (at, (0, 1)), (at, (3, 0)), (at, (4, 9)), (slope, (0, 1, 0)), (slope, (2, 1, 1)),
    (opened, (1, 0)), (opened, (0, 9)), (rank, ()),
]


class Alone(unittest.TestCase):
    def test_the_row_is_the_same_afterwards(self):
        rows = [case[2] for case in CASES] + [sample(kind) for kind in KINDS]
        for row in rows:
            for call, asked in CALLS:
                copy = list(row)
                call(*asked, row)
                self.assertEqual(row, copy)

    def test_the_row_is_not_changed_for_a_while_either(self):
        for call, asked, row, expected in CASES:
            self.assertEqual(call(*asked, Unchangeable(row)), expected)

    def test_whatever_was_asked_before_the_same_is_told(self):
        for before, after in itertools.product(CASES, CASES):
            for call, asked, row, expected in (before, after, after):
                self.assertEqual(call(*asked, row), expected)

    def test_in_any_order_of_calls(self):
        source = random.Random(4)
        for turn in range(50):
            for call, asked, row, expected in source.sample(CASES, len(CASES)):
                self.assertEqual(call(*asked, row), expected)

    def test_one_list_handed_to_every_call(self):
        row = Unchangeable(LAMP)
        for turn in range(2):
            told = [call(*asked, row) for call, asked, other, expected in CASES if other == LAMP]
            self.assertEqual(told, [expected for call, asked, other, expected in CASES if other == LAMP])

    def test_what_is_done_with_an_answer_does_not_matter(self):
        for call, asked, row, expected in CASES:
            answer = call(*asked, row)
            answer[0] = 5
            answer.append(7)
            self.assertEqual(call(*asked, row), expected)

    def test_a_row_that_the_caller_changed_is_taken_as_it_is_now(self):
        row = net(1, part(R))
        self.assertEqual(judge(row), [0, 1, 1, 0, 2])
        row[0] = 3
        self.assertEqual(judge(row), [0, 3, 1, 0, 4])
        row.extend(part(D))
        self.assertEqual(judge(row), [0, 3, 2, 1, 5])

    def test_a_network_that_the_caller_changed_is_reckoned_anew(self):
        row = list(LAMP)
        self.assertEqual(point(row), [0, 1, 0])
        row[6] = -5
        self.assertEqual(point(row), [0, 0, 1])
        self.assertEqual(at(0, 2, row), [0, -1, 1])
        self.assertEqual(slope(0, 2, 2, row), [0, 0, 1])
        self.assertEqual(slope(0, 2, 3, row), [0, -1, 1])
        row[6] = 1
        self.assertEqual(point(row), [0, 0, 0])
        self.assertEqual(at(0, 2, row), [0, 1, 1])
        self.assertEqual(opened(0, 2, row), [0, -1, 1, 2, 1])
        row[0] = 3
        self.assertEqual(point(row), [-4])
        self.assertEqual(rank(row), [0, 7, 6, 1])

    def test_a_list_of_whole_numbers_is_given_back(self):
        for call, asked, row, expected in CASES:
            answer = call(*asked, row)
            self.assertIs(type(answer), list)
            self.assertEqual([type(number) for number in answer], [int] * len(expected))

    def test_nothing_is_printed(self):
        printed = io.StringIO()
        with contextlib.redirect_stdout(printed), contextlib.redirect_stderr(printed):
            for call, asked, row, expected in CASES:
                call(*asked, row)
        self.assertEqual(printed.getvalue(), "")


if __name__ == "__main__":
    unittest.main()
