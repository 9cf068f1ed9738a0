"""That every call refuses with -1 and -2 just as judge does, ahead of whatever else it refuses."""

import unittest

from netrows import D, F, H, I, KINDS, L, M, R, S, V
from netrows import changed, net, part, sample
from restingnets.nets import at, judge, opened, point, rank, slope

MOST = 4294967295

# A call, and what to ask besides the row, things that there are and things that there are not.
CALLS = [
    (point, ()), (at, (0, 0)), (at, (3, 1)), (at, (0, 2)), (at, (1, 63)), (at, (4, 0)), (at, (MOST, MOST)),
    (slope, (0, 0, 0)), (slope, (2, 0, 1)), (slope, (3, 0, 0)), (slope, (0, 63, 0)), (slope, (0, 0, 63)),
    (slope, (MOST, MOST, MOST)), (opened, (0, 0)), (opened, (1, 0)), (opened, (2, 0)), (opened, (0, 63)),
    (opened, (MOST, MOST)), (rank, ()),
]

FIGHT = (part(V, (1, 0), 1), part(V, (1, 0), 2))
NO_ROWS = [
    [], [0], [9], [-1], [MOST], [-MOST], [1, 0], [1] * 7, [1] * 14, [0] * 120, [MOST] * 120, [-MOST] * 120,
    net(1, *[part(R, (1, 0))] * 15), net(1, *[part(D, (1, 0))] * 6), net(1, *FIGHT) + [0],
    net(1, part(S, top=2), *[part(D)] * 6), net(0, part(R, (1, 1))), net(9, part(R, (9, 9))),
]
WRONG = [
    ((part(R, (2, 0)),), 0, 1), ((part(R, top=0),), 0, 2), ((part(M, (0, 1)),), 0, 3), ((part(H, (1, 0, 0)),), 0, 3),
    ((part(L), part(L), part(M, (0, 1), 2)), 2, 2), ((part(L), part(L), part(M, (0, 1)), part(F, (1, 0, 2))), 3, 3),
    ((part(S, (1, 0), 2),), 0, 2), ((part(D, (1, 0), -1),), 0, 2), ((part(I, (0, 63)),), 0, 1),
]


class AsJudgeTellsThem(unittest.TestCase):
    def assert_refused(self, row, expected):
        self.assertEqual(judge(row), expected)
        for call, asked in CALLS:
            with self.subTest(call=call.__name__, asked=asked, row=row):
                self.assertEqual(call(*asked, row), expected)

    def test_no_row(self):
        for row in NO_ROWS:
            self.assert_refused(row, [-1])

    def test_a_number_out_of_bounds(self):
        row = net(1, part(V, (1, 0)), part(R, (1, 0)))
        for index, number in (
            (0, 0), (0, 9), (8, 14), (8, -1), (9, 64), (10, -1), (11, 64), (12, -1), (13, 1000001), (13, -1000001),
            (14, 0), (14, 1000001), (14, -1),
        ):
            self.assert_refused(changed(row, index, number), [-1])

    def test_a_wrong_network(self):
        for parts, k, fault in WRONG:
            self.assert_refused(net(1, *parts), [-2, k, fault])

    def test_a_wrong_network_without_an_operating_point(self):
        for parts, k, fault in WRONG:
            self.assert_refused(net(1, *parts, *FIGHT), [-2, k, fault])

    def test_no_row_ahead_of_a_wrong_network(self):
        for parts, k, fault in WRONG:
            self.assert_refused(net(0, *parts), [-1])
            self.assert_refused(net(1, *parts) + [0], [-1])
            self.assert_refused(net(1, *parts, changed(part(R), 0, 14)), [-1])

    def test_each_kind_wrong_in_its_last_element(self):
        for kind in KINDS:
            row = sample(kind)
            self.assert_refused(row[:-7] + changed(row[-7:], 5, 1000001), [-1])


if __name__ == "__main__":
    unittest.main()
