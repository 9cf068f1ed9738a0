"""What judge tells of networks with which nothing is wrong."""

import unittest

from netrows import C, D, E, F, G, H, I, KINDS, L, M, NAMES, NODE_PLACES, O, R, S, T, UNUSED_PLACES, V
from netrows import changed, needed, net, part, sample
from restingnets.nets import judge


class OrdinaryNetworks(unittest.TestCase):
    def test_no_elements(self):
        for last_node in range(1, 9):
            self.assertEqual(judge([last_node]), [0, last_node, 0, 0, last_node])

    def test_each_kind(self):
        expected = {
            R: [0, 1, 1, 0, 2], C: [0, 1, 1, 0, 2], L: [0, 1, 1, 0, 2], M: [0, 1, 3, 0, 3],
            V: [0, 1, 1, 0, 2], I: [0, 1, 1, 0, 2], E: [0, 1, 1, 0, 2], G: [0, 1, 1, 0, 2],
            H: [0, 1, 2, 0, 3], F: [0, 1, 2, 0, 3], T: [0, 1, 1, 0, 3], O: [0, 1, 1, 0, 2],
            S: [0, 1, 1, 0, 2], D: [0, 1, 1, 1, 2],
        }
        for kind in KINDS:
            with self.subTest(kind=NAMES[kind]):
                self.assertEqual(judge(sample(kind)), expected[kind])

    def test_the_row_is_read_as_the_document_says(self):
        row = [2, 4, 1, 0, 0, 0, 5, 1, 0, 1, 2, 0, 0, 100, 3, 13, 2, 0, 0, 0, 7, 10]
        self.assertEqual(judge(row), [0, 2, 3, 1, 5])

    def test_divider(self):
        row = net(2, part(V, (1, 0), 12), part(R, (1, 2), 3), part(R, (2, 0), 1))
        self.assertEqual(judge(row), [0, 2, 3, 0, 5])

    def test_rectifier(self):
        row = net(
            4, part(V, (1, 0), 5), part(D, (1, 2), 7, 10), part(D, (0, 2), 0),
            part(R, (2, 3), 50), part(S, (3, 4), 0), part(C, (2, 0), 1, 1000000), part(D, (4, 0), 3),
        )
        self.assertEqual(judge(row), [0, 4, 7, 3, 11])

    def test_coupled_inductors_and_a_transformer(self):
        row = net(
            5, part(L, (1, 0), 4), part(L, (2, 0), 9), part(L, (3, 0), 1), part(M, (0, 1), 6),
            part(M, (2, 0), -2), part(M, (1, 2), 3), part(T, (1, 0, 4, 0), -3), part(R, (4, 5), 2),
        )
        self.assertEqual(judge(row), [0, 5, 8, 0, 11])

    def test_every_kind_together(self):
        row = net(
            8, part(R, (1, 2)), part(C, (2, 3)), part(L, (3, 4)), part(L, (4, 5)), part(M, (3, 2)),
            part(V, (1, 0)), part(I, (0, 5)), part(E, (6, 0, 1, 2)), part(G, (7, 0, 3, 4)),
            part(H, (8, 0, 0)), part(F, (8, 0, 9)), part(T, (1, 2, 3, 4)), part(O, (5, 0, 6, 7)),
            part(D, (7, 8)),
        )
        self.assertEqual(judge(row), [0, 8, 14, 1, 22])

    def test_whether_the_laws_are_regular_is_not_asked(self):
        row = net(1, part(V, (1, 0), 1), part(V, (1, 0), 2), part(I, (0, 0), 3))
        self.assertEqual(judge(row), [0, 1, 3, 0, 4])


class Counts(unittest.TestCase):
    def test_up_to_fourteen_elements(self):
        for count in range(15):
            row = net(3, *[part(R, (1, 2))] * count)
            self.assertEqual(judge(row), [0, 3, count, 0, 3 + count])

    def test_up_to_five_diodes(self):
        for count in range(6):
            row = net(3, *[part(D, (1, 2))] * count, part(R))
            self.assertEqual(judge(row), [0, 3, count + 1, count, 4 + count])

    def test_fourteen_elements_with_five_diodes_among_them(self):
        row = net(8, *[part(R), part(D)] * 5, *[part(T)] * 4)
        self.assertEqual(judge(row), [0, 8, 14, 5, 8 + 10 + 8])

    def test_fourteen_transformers_have_two_currents_each(self):
        self.assertEqual(judge(net(8, *[part(T)] * 14)), [0, 8, 14, 0, 36])

    def test_mutual_inductances_have_no_current(self):
        pairs = [(0, 1), (0, 2), (0, 3), (1, 2), (1, 3), (2, 3)]
        row = net(2, *[part(L)] * 4, *[part(M, pair) for pair in pairs])
        self.assertEqual(judge(row), [0, 2, 10, 0, 6])


class Places(unittest.TestCase):
    def test_each_node_may_be_0_and_n(self):
        for kind in KINDS:
            for last_node in (1, 4, 8):
                for place in NODE_PLACES[kind]:
                    for node in (0, last_node):
                        row = sample(kind, last_node)
                        row = changed(row, len(row) - 6 + place, node)
                        with self.subTest(kind=NAMES[kind], n=last_node, place=place, node=node):
                            self.assertEqual(judge(row)[0], 0)

    def test_all_nodes_may_be_n(self):
        for kind in (E, G, T, O):
            self.assertEqual(judge(sample(kind, 8, (8, 8, 8, 8)))[0], 0)

    def test_unused_places_are_not_looked_at(self):
        for kind in KINDS:
            for place in UNUSED_PLACES[kind]:
                for number in (0, 1, 2, 9, 63):
                    row = sample(kind)
                    other = changed(row, len(row) - 6 + place, number)
                    with self.subTest(kind=NAMES[kind], place=place, number=number):
                        self.assertEqual(judge(other), judge(row))
                        self.assertEqual(judge(other)[0], 0)

    def test_a_mutual_inductance_has_no_nodes(self):
        row = net(1, *[part(R)] * 9, part(L), part(L), part(M, (10, 9, 63, 63)))
        self.assertEqual(judge(row), [0, 1, 12, 0, 12])

    def test_a_mutual_inductance_may_name_its_inductors_either_way_round(self):
        for pair in ((0, 1), (1, 0)):
            self.assertEqual(judge(sample(M, places=pair)), [0, 1, 3, 0, 3])

    def test_an_element_referred_to_may_be_numbered_above_n(self):
        for kind in (H, F):
            row = net(1, *[part(R)] * 12, part(kind, (0, 1, 11, 63)))
            self.assertEqual(judge(row), [0, 1, 13, 0, 14])

    def test_every_kind_but_m_may_be_referred_to(self):
        for kind in (H, F):
            for other in KINDS:
                before = [*needed(other), part(other)]
                if other == M:
                    continue
                row = net(1, *before, part(kind, (0, 1, len(before) - 1)))
                with self.subTest(kind=NAMES[kind], other=NAMES[other]):
                    self.assertEqual(judge(row)[0], 0)

    def test_several_may_refer_to_the_same_element(self):
        row = net(1, part(V), part(H), part(F), part(H, (1, 0, 2)), part(F, (1, 0, 2)))
        self.assertEqual(judge(row), [0, 1, 5, 0, 6])


class AllowedNumbers(unittest.TestCase):
    def assert_right(self, kind, top, bottom):
        with self.subTest(kind=NAMES[kind], top=top, bottom=bottom):
            self.assertEqual(judge(sample(kind, top=top, bottom=bottom))[0], 0)

    def test_above_0(self):
        for kind in (R, C, L):
            for top, bottom in ((1, 1), (1, 1000000), (1000000, 1), (1000000, 1000000), (4, 6)):
                self.assert_right(kind, top, bottom)

    def test_any(self):
        for kind in (V, I, E, G, H, F):
            for top in (-1000000, -1, 0, 1, 1000000):
                for bottom in (1, 7, 1000000):
                    self.assert_right(kind, top, bottom)

    def test_all_but_0(self):
        for top in (-1000000, -1, 1, 1000000):
            for bottom in (1, 7, 1000000):
                self.assert_right(T, top, bottom)

    def test_only_0(self):
        for bottom in (1, 7, 1000000):
            self.assert_right(O, 0, bottom)

    def test_0_or_1(self):
        for bottom in (1, 2, 7, 1000000):
            self.assert_right(S, 0, bottom)
            self.assert_right(S, bottom, bottom)

    def test_0_or_more(self):
        for top in (0, 1, 1000000):
            for bottom in (1, 7, 1000000):
                self.assert_right(D, top, bottom)


class SquaresUpToTheProduct(unittest.TestCase):
    def assert_right(self, first, second, mutual):
        row = net(1, part(L, (0, 1), *first), part(L, (1, 0), *second), part(M, (0, 1), *mutual))
        with self.subTest(first=first, second=second, mutual=mutual):
            self.assertEqual(judge(row), [0, 1, 3, 0, 3])

    def test_at_the_product(self):
        for top in (-6, 6):
            self.assert_right((4, 1), (9, 1), (top, 1))
            self.assert_right((4, 25), (9, 49), (top, 35))
            self.assert_right((2, 3), (54, 1), (top, 1))
            self.assert_right((8, 2), (27, 3), (top * 4, 4))

    def test_at_the_product_of_the_greatest_and_least_numbers(self):
        for sign in (-1, 1):
            self.assert_right((1000000, 1), (1000000, 1), (sign * 1000000, 1))
            self.assert_right((1, 1000000), (1, 1000000), (sign, 1000000))
            self.assert_right((1000000, 1), (1, 1000000), (sign * 1000000, 1000000))

    def test_below_the_product(self):
        for top in (-5, -1, 0, 1, 5):
            self.assert_right((4, 1), (9, 1), (top, 1))
        self.assert_right((2, 1), (1, 1), (707106, 500000))
        self.assert_right((1, 1), (1, 1), (-999999, 1000000))


if __name__ == "__main__":
    unittest.main()
