"""The refusal -1: what is handed over is no row."""

import unittest

from netrows import D, KINDS, M, NAMES, R
from netrows import changed, net, part, sample
from restingnets.nets import judge

MOST = 4294967295


class NoRow(unittest.TestCase):
    def assert_refused(self, row, **about):
        with self.subTest(**about):
            self.assertEqual(judge(row), [-1])

    def assert_a_row(self, row, **about):
        with self.subTest(**about):
            self.assertNotEqual(judge(row)[0], -1)

    def test_empty(self):
        self.assert_refused([])

    def test_n_out_of_bounds(self):
        for number in (-MOST, -8, -1, 0, 9, 10, 63, MOST):
            self.assert_refused([number], n=number)
            self.assert_refused(net(number, part(R)), n=number)

    def test_n_within_bounds(self):
        for number in (1, 8):
            self.assert_a_row([number], n=number)
            self.assert_a_row(net(number, part(R)), n=number)

    def test_not_in_sevens(self):
        whole = net(1, *[part(R)] * 17)
        for length in range(1, 121):
            if length % 7 != 1:
                self.assert_refused(whole[:length], length=length)

    def test_elements_without_n(self):
        self.assert_refused(part(R))
        self.assert_refused(part(R) + part(R))

    def test_fourteen_elements_are_the_most(self):
        self.assert_a_row(net(1, *[part(R)] * 14))
        for count in (15, 16, 17):
            self.assert_refused(net(1, *[part(R)] * count), count=count)

    def test_mutual_inductances_and_transformers_count_as_elements_once(self):
        self.assert_a_row(net(1, *[part(kind) for kind in KINDS]))
        self.assert_refused(net(1, *[part(kind) for kind in KINDS], part(M)))

    def test_five_diodes_are_the_most(self):
        self.assert_a_row(net(1, *[part(D)] * 5))
        self.assert_refused(net(1, *[part(D)] * 6))
        self.assert_a_row(net(1, *[part(R), part(D)] * 5, *[part(R)] * 4))
        self.assert_refused(net(1, *[part(R), part(D)] * 6))
        self.assert_refused(net(1, *[part(D)] * 14))

    def test_kinds(self):
        for kind in (0, 13):
            self.assert_a_row([1, kind, 0, 0, 0, 0, 1, 1], kind=kind)
        for kind in (-MOST, -13, -1, 14, 15, MOST):
            self.assert_refused([1, kind, 0, 0, 0, 0, 1, 1], kind=kind)

    def test_the_next_four_numbers(self):
        # The bounds hold for every kind, also where it doesn't use the number.
        for kind in KINDS:
            row = sample(kind)
            for index in range(len(row) - 6, len(row) - 2):
                for number in (0, 63):
                    self.assert_a_row(changed(row, index, number), kind=NAMES[kind], index=index, number=number)
                for number in (-MOST, -1, 64, MOST):
                    self.assert_refused(changed(row, index, number), kind=NAMES[kind], index=index, number=number)

    def test_numerators(self):
        for kind in KINDS:
            row = sample(kind)
            index = len(row) - 2
            for number in (-1000000, -1, 0, 1, 1000000):
                self.assert_a_row(changed(row, index, number), kind=NAMES[kind], number=number)
            for number in (-MOST, -1000001, 1000001, MOST):
                self.assert_refused(changed(row, index, number), kind=NAMES[kind], number=number)

    def test_denominators(self):
        for kind in KINDS:
            row = sample(kind)
            index = len(row) - 1
            for number in (1, 2, 1000000):
                self.assert_a_row(changed(row, index, number), kind=NAMES[kind], number=number)
            for number in (-MOST, -1, 0, 1000001, MOST):
                self.assert_refused(changed(row, index, number), kind=NAMES[kind], number=number)

    def test_every_element_is_looked_at(self):
        whole = net(1, *[part(R)] * 14)
        for index in range(1, len(whole)):
            self.assert_refused(changed(whole, index, -1000001), index=index)
            self.assert_refused(changed(whole, index, 1000001), index=index)


class NoRowBeforeWrongNetwork(unittest.TestCase):
    """What makes a row none is told before anything that is wrong with the network."""

    WRONG = (part(R, (9, 9)), part(R, top=0), part(M))

    def test_each_is_refused_with_minus_2_by_itself(self):
        self.assertEqual([judge(net(1, wrong)) for wrong in self.WRONG], [[-2, 0, 1], [-2, 0, 2], [-2, 0, 3]])

    def test_in_one_element(self):
        for wrong in self.WRONG:
            for index, number in ((0, 14), (1, 64), (2, -1), (3, 64), (4, -1), (5, 1000001), (6, 0)):
                with self.subTest(wrong=wrong, index=index):
                    self.assertEqual(judge(net(1, changed(wrong, index, number))), [-1])

    def test_in_another_element(self):
        for wrong in self.WRONG:
            for index, number in ((0, -1), (1, -1), (2, 64), (3, -1), (4, 64), (5, -1000001), (6, 1000001)):
                bad = changed(part(R), index, number)
                with self.subTest(wrong=wrong, index=index):
                    self.assertEqual(judge(net(1, wrong, bad)), [-1])
                    self.assertEqual(judge(net(1, bad, wrong)), [-1])

    def test_in_the_whole_row(self):
        for wrong in self.WRONG:
            self.assertEqual(judge(net(0, wrong)), [-1])
            self.assertEqual(judge(net(9, wrong)), [-1])
            self.assertEqual(judge(net(1, wrong) + [0]), [-1])
            self.assertEqual(judge(net(1, *[wrong] * 15)), [-1])
            self.assertEqual(judge(net(1, wrong, *[part(D)] * 6)), [-1])


if __name__ == "__main__":
    unittest.main()
