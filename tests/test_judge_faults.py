"""The refusal -2: the first element with which something is wrong, and what that is."""

import unittest

from netrows import C, D, E, F, G, H, KINDS, L, M, NAMES, NODE_PLACES, O, R, S, T, V
from netrows import changed, needed, net, part, sample
from restingnets.nets import judge


class NodesAboveN(unittest.TestCase):
    def test_each_node_of_each_kind(self):
        for kind in KINDS:
            for last_node in range(1, 9):
                for place in NODE_PLACES[kind]:
                    for node in (last_node + 1, 63):
                        row = sample(kind, last_node)
                        row = changed(row, len(row) - 6 + place, node)
                        with self.subTest(kind=NAMES[kind], n=last_node, place=place, node=node):
                            self.assertEqual(judge(row), [-2, len(needed(kind)), 1])


class NumbersNotAllowed(unittest.TestCase):
    def assert_wrong(self, kind, top, bottom):
        with self.subTest(kind=NAMES[kind], top=top, bottom=bottom):
            self.assertEqual(judge(sample(kind, top=top, bottom=bottom)), [-2, 0, 2])

    def test_0_or_below(self):
        for kind in (R, C, L):
            for top in (-1000000, -1, 0):
                for bottom in (1, 1000000):
                    self.assert_wrong(kind, top, bottom)

    def test_0_for_a_transformer(self):
        for bottom in (1, 1000000):
            self.assert_wrong(T, 0, bottom)

    def test_other_than_0_for_an_amplifier(self):
        for top in (-1000000, -1, 1, 1000000):
            for bottom in (1, 1000000):
                self.assert_wrong(O, top, bottom)

    def test_other_than_0_and_1_for_a_switch(self):
        for top, bottom in ((-1, 1), (2, 1), (1, 2), (2, 4), (3, 2), (-2, 2), (999999, 1000000), (1000000, 999999)):
            self.assert_wrong(S, top, bottom)

    def test_below_0_for_a_diode(self):
        for top in (-1000000, -1):
            for bottom in (1, 1000000):
                self.assert_wrong(D, top, bottom)


class References(unittest.TestCase):
    def test_not_before_it(self):
        for kind in (H, F):
            for x in (1, 2, 3, 13, 63):
                row = net(1, part(R), part(kind, (0, 1, x)), part(R))
                with self.subTest(kind=NAMES[kind], x=x):
                    self.assertEqual(judge(row), [-2, 1, 3])

    def test_nothing_before_it(self):
        for kind in (H, F, M):
            for x in (0, 1, 63):
                self.assertEqual(judge(net(1, part(kind, (x if kind == M else 0, 0, x)))), [-2, 0, 3])

    def test_a_mutual_inductance_as_the_element_referred_to(self):
        for kind in (H, F):
            row = net(1, part(L), part(L), part(M, (0, 1)), part(kind, (0, 1, 2)))
            self.assertEqual(judge(row), [-2, 3, 3])

    def test_an_inductor_that_does_not_stand_before_the_mutual_inductance(self):
        for pair in ((0, 2), (2, 0), (1, 3), (3, 1), (3, 4), (0, 63), (63, 0), (2, 2)):
            row = net(1, part(L), part(L), part(M, pair), part(L), part(L))
            with self.subTest(pair=pair):
                self.assertEqual(judge(row), [-2, 2, 3])

    def test_a_mutual_inductance_of_no_inductor(self):
        for other in KINDS:
            if other == L:
                continue
            before = [part(L), part(L), part(M, (0, 1)) if other == M else part(other)]
            for pair in ((0, 2), (2, 1)):
                with self.subTest(other=NAMES[other], pair=pair):
                    self.assertEqual(judge(net(1, *before, part(M, pair))), [-2, 3, 3])

    def test_the_same_inductor_twice(self):
        for pair in ((0, 0), (1, 1)):
            self.assertEqual(judge(net(1, part(L), part(L), part(M, pair))), [-2, 2, 3])

    def test_a_pair_that_is_taken(self):
        inductors = [part(L)] * 3
        for pair in ((0, 2), (2, 0)):
            for again in ((0, 2), (2, 0)):
                row = net(1, *inductors, part(M, pair), part(M, (1, 2)), part(M, again))
                with self.subTest(pair=pair, again=again):
                    self.assertEqual(judge(row), [-2, 5, 3])

    def test_a_pair_that_is_taken_with_nothing_coupled(self):
        row = net(1, part(L), part(L), part(M, (0, 1), 0), part(M, (0, 1), 1))
        self.assertEqual(judge(row), [-2, 3, 3])


class SquaresAboveTheProduct(unittest.TestCase):
    def assert_wrong(self, first, second, mutual):
        row = net(1, part(L, (0, 1), *first), part(L, (1, 0), *second), part(M, (1, 0), *mutual))
        with self.subTest(first=first, second=second, mutual=mutual):
            self.assertEqual(judge(row), [-2, 2, 2])

    def test_just_above(self):
        for sign in (-1, 1):
            self.assert_wrong((4, 1), (9, 1), (sign * 7, 1))
            self.assert_wrong((4, 1), (9, 1), (sign * 600001, 100000))
            self.assert_wrong((4, 25), (9, 49), (sign * 6, 34))
            self.assert_wrong((2, 1), (1, 1), (sign * 707107, 500000))
            self.assert_wrong((1, 1), (1, 1), (sign * 1000000, 999999))

    def test_at_the_greatest_and_least_numbers(self):
        for sign in (-1, 1):
            self.assert_wrong((999999, 1), (1000000, 1), (sign * 1000000, 1))
            self.assert_wrong((1000000, 1), (999999, 1), (sign * 1000000, 1))
            self.assert_wrong((1, 1000000), (1, 1000000), (sign, 999999))
            self.assert_wrong((1, 1000000), (1, 1000000), (sign * 2, 1000000))

    def test_of_the_two_inductors_that_it_names(self):
        inductors = [part(L, top=1), part(L, top=100), part(L, top=4), part(L, top=9)]
        self.assertEqual(judge(net(1, *inductors, part(M, (2, 3), 6))), [0, 1, 5, 0, 5])
        self.assertEqual(judge(net(1, *inductors, part(M, (0, 3), 4))), [-2, 4, 2])
        self.assertEqual(judge(net(1, *inductors, part(M, (3, 0), 3))), [0, 1, 5, 0, 5])


class WhatComesFirst(unittest.TestCase):
    NODE = part(R, (2, 0))
    NUMBER = part(S, top=2)
    REFERENCE = part(H, (0, 0, 63))

    def test_the_first_wrong_element_is_told(self):
        wrong = ((self.NODE, 1), (self.NUMBER, 2), (self.REFERENCE, 3))
        for first, fault in wrong:
            for second, behind in wrong:
                for count in (0, 1, 5):
                    row = net(1, *[part(V)] * count, first, part(R), second)
                    with self.subTest(fault=fault, behind=behind, count=count):
                        self.assertEqual(judge(row), [-2, count, fault])

    def test_the_last_of_fourteen_elements(self):
        for wrong, fault in ((self.NODE, 1), (self.NUMBER, 2), (self.REFERENCE, 3)):
            self.assertEqual(judge(net(1, *[part(R)] * 13, wrong)), [-2, 13, fault])

    def test_a_wrong_inductor_is_told_before_what_refers_to_it(self):
        row = net(1, part(L, top=-4), part(L, top=-9), part(M, (0, 0), 7))
        self.assertEqual(judge(row), [-2, 0, 2])

    def test_a_square_above_the_product_is_told_before_a_later_element(self):
        row = net(1, part(L), part(L), part(M, (0, 1), 2), self.NODE)
        self.assertEqual(judge(row), [-2, 2, 2])

    def test_a_node_before_a_number(self):
        for kind, top in ((R, 0), (C, -1), (L, 0), (T, 0), (O, 1), (S, 2), (D, -1)):
            for place in NODE_PLACES[kind]:
                row = sample(kind, 1, top=top)
                with self.subTest(kind=NAMES[kind], place=place):
                    self.assertEqual(judge(row), [-2, 0, 2])
                    self.assertEqual(judge(changed(row, 2 + place, 2)), [-2, 0, 1])

    def test_a_node_before_a_reference(self):
        for kind in (H, F):
            self.assertEqual(judge(net(1, part(kind, (2, 0, 5)))), [-2, 0, 1])
            self.assertEqual(judge(net(1, part(kind, (0, 2, 5)))), [-2, 0, 1])
            self.assertEqual(judge(net(1, part(kind, (0, 1, 5)))), [-2, 0, 3])

    def test_a_reference_before_a_square_above_the_product(self):
        inductors = [part(L), part(L)]
        for pair in ((0, 0), (0, 2), (2, 1), (63, 63)):
            self.assertEqual(judge(net(1, *inductors, part(M, pair, 1000000))), [-2, 2, 3])
        self.assertEqual(judge(net(1, *inductors, part(M, (0, 1)), part(M, (1, 0), 1000000))), [-2, 3, 3])
        self.assertEqual(judge(net(1, part(L), part(R), part(M, (0, 1), 1000000))), [-2, 2, 3])


class OnlyWhatTheKindUses(unittest.TestCase):
    def test_the_second_pair_is_looked_at_where_the_kind_has_one(self):
        for kind in KINDS:
            places = (0, 1, 0, 63) if kind in (M, H, F) else (0, 1, 63, 63)
            expected = -2 if kind in (E, G, T, O) else 0
            with self.subTest(kind=NAMES[kind]):
                self.assertEqual(judge(sample(kind, places=places))[0], expected)


if __name__ == "__main__":
    unittest.main()
