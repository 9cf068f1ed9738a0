"""The rank of the laws, and whether they have a solution."""

import unittest

from netrows import C, D, E, F, G, H, I, KINDS, L, M, O, R, S, T, V
from netrows import changed, net, part, sample
from restingnets.nets import judge, point, rank

DIVIDER = net(2, part(V, (1, 0), 12), part(R, (1, 2), 3), part(R, (2, 0), 1))


class RankCase(unittest.TestCase):
    def assert_rank(self, row, unknowns, expected, solvable):
        self.assertEqual(judge(row)[0], 0)
        with self.subTest(row=row):
            self.assertEqual(rank(row), [0, unknowns, expected, solvable])


class Regular(RankCase):
    def test_a_divider(self):
        self.assertEqual(rank(DIVIDER), [0, 5, 5, 1])

    def test_each_kind(self):
        rows = (
            net(1, part(R, (1, 0))), net(1, part(R, (1, 0)), part(C, (1, 0))), net(1, part(L, (1, 0))),
            net(2, part(L, (1, 0)), part(L, (2, 0)), part(M, (0, 1))), net(1, part(V, (1, 0))),
            net(1, part(R, (1, 0)), part(I, (1, 0))), net(2, part(V, (1, 0)), part(E, (2, 0, 1, 0))),
            net(2, part(V, (1, 0)), part(G, (2, 0, 1, 0)), part(R, (2, 0))),
            net(2, part(V, (1, 0)), part(H, (2, 0, 0))), net(2, part(V, (1, 0)), part(F, (2, 0, 0)), part(R, (2, 0))),
            net(2, part(V, (1, 0)), part(T, (1, 0, 2, 0))), net(2, part(V, (1, 0)), part(O, (2, 0, 2, 1))),
            net(1, part(S, (1, 0), 1)), net(1, part(S, (1, 0), 0), part(R, (1, 0))),
            net(1, part(R, (1, 0)), part(D, (1, 0))),
        )
        for row in rows:
            unknowns = judge(row)[4]
            self.assert_rank(row, unknowns, unknowns, 1)
            self.assertEqual(point(row)[0], 0)

    def test_states_as_at_the_point(self):
        # With the diode off nothing would tell node 1's voltage, and the source's current had nowhere to go.
        row = net(1, part(I, (0, 1), 2), part(D, (1, 0), 1))
        self.assertEqual(point(row), [0, 1])
        self.assert_rank(row, 3, 3, 1)
        row = net(1, part(I, (0, 1), 2), part(D, (1, 0), 1), part(D, (1, 0), 1))
        self.assertEqual(point(row), [0, 0, 1])
        self.assert_rank(row, 4, 4, 1)

    def test_fourteen_elements(self):
        row = net(8, part(V, (1, 0), 14), *[part(R, (k, k + 1)) for k in range(1, 8)], *[part(R, (8, 0), 6)] * 6)
        self.assert_rank(row, 22, 22, 1)


class NotRegular(RankCase):
    def test_no_elements(self):
        for last_node in range(1, 9):
            self.assertEqual(rank([last_node]), [0, last_node, 0, 1])

    def test_a_node_that_nothing_touches(self):
        self.assert_rank(net(2, part(V, (1, 0)), part(R, (1, 0))), 4, 3, 1)
        self.assert_rank(net(8, part(V, (1, 0)), part(R, (1, 0))), 10, 3, 1)
        self.assert_rank(net(3, part(R, (0, 0)), part(R, (2, 2))), 5, 2, 1)

    def test_nodes_that_touch_one_another_alone(self):
        self.assert_rank(net(2, part(R, (1, 2))), 3, 2, 1)
        self.assert_rank(net(3, *[DIVIDER[k:k + 7] for k in (1, 8, 15)]), 6, 5, 1)

    def test_voltage_sources_that_fight(self):
        self.assert_rank(net(1, part(V, (1, 0), 1), part(V, (1, 0), 2)), 3, 2, 0)
        self.assert_rank(net(1, part(V, (1, 0), 1), part(V, (1, 0), -1)), 3, 2, 0)
        self.assert_rank(net(1, part(V, (1, 0), 1), part(V, (1, 0), 999999, 1000000)), 3, 2, 0)

    def test_voltage_sources_that_are_alike(self):
        self.assert_rank(net(1, part(V, (1, 0), 1), part(V, (1, 0), 1)), 3, 2, 1)
        self.assert_rank(net(1, part(V, (1, 0), 1), part(V, (0, 1), -1)), 3, 2, 1)
        self.assert_rank(net(1, part(V, (1, 0), 2, 3), part(V, (1, 0), 4, 6)), 3, 2, 1)
        self.assert_rank(net(1, part(V, (1, 0), 0), part(V, (1, 0), 0)), 3, 2, 1)

    def test_voltage_sources_all_around(self):
        for third, solvable in ((3, 0), (-3, 1)):
            row = net(2, part(V, (1, 0), 1), part(V, (2, 1), 2), part(V, (0, 2), third))
            self.assert_rank(row, 5, 4, solvable)

    def test_current_sources_that_fight(self):
        for second, solvable in ((2, 0), (1, 1)):
            row = net(2, part(I, (0, 1), 1), part(I, (1, 2), second), part(R, (2, 0)))
            self.assert_rank(row, 5, 4, solvable)

    def test_a_current_source_without_a_way_back(self):
        self.assert_rank(net(1, part(I, (0, 1), 1)), 2, 1, 0)
        self.assert_rank(net(1, part(I, (0, 1), 0)), 2, 1, 1)

    def test_a_voltage_source_at_one_node(self):
        self.assert_rank(net(1, part(R, (1, 0)), part(V, (1, 1), 3)), 3, 2, 0)
        self.assert_rank(net(1, part(R, (1, 0)), part(V, (1, 1), 0)), 3, 2, 1)

    def test_fourteen_elements(self):
        # At node 1 the currents come to 0; its voltage is 0, fourteen times; each second current is told.
        self.assert_rank(net(8, *[part(T, (1, 0, 0, 0), 2)] * 14), 36, 16, 1)
        self.assert_rank(net(8, *[part(V, (1, 0), 2)] * 14), 22, 2, 1)
        self.assert_rank(net(8, *[part(V, (1, 0), 2)] * 13, part(V, (1, 0), 3)), 22, 2, 0)
        self.assert_rank(net(8, *[part(I, (1, 0), 2)] * 14), 22, 14, 0)

    def test_sources_that_follow_themselves(self):
        # v1 = 1 v1 says nothing; with another number it says that v1 is 0.
        self.assert_rank(net(1, part(E, (1, 0, 1, 0), 1)), 2, 1, 1)
        self.assert_rank(net(1, part(E, (1, 0, 1, 0), 2)), 2, 2, 1)
        row = net(1, part(R, (1, 0), 4), part(G, (1, 0, 1, 0), -1, 4))
        self.assert_rank(row, 3, 2, 1)
        self.assert_rank(row + part(I, (0, 1), 1), 4, 3, 0)
        self.assert_rank(net(1, part(R, (1, 0), 4), part(G, (1, 0, 1, 0), -250001, 1000000)), 3, 3, 1)

    def test_sources_by_a_current(self):
        self.assert_rank(net(1, part(R, (1, 0), 5), part(H, (1, 0, 0), 5)), 3, 2, 1)
        self.assert_rank(net(1, part(R, (1, 0), 5), part(H, (1, 0, 0), 6)), 3, 3, 1)
        self.assert_rank(net(1, part(R, (1, 0), 5), part(F, (1, 0, 0), -1)), 3, 2, 1)
        self.assert_rank(net(1, part(R, (1, 0), 5), part(F, (1, 0, 0), 1)), 3, 3, 1)

    def test_an_amplifier(self):
        self.assert_rank(net(1, part(O, (1, 0, 1, 0))), 2, 2, 1)
        self.assert_rank(net(1, part(O, (0, 0, 1, 0))), 2, 1, 1)
        self.assert_rank(net(1, part(V, (1, 0), 3), part(O, (1, 0, 1, 0))), 3, 2, 0)


class AtRest(RankCase):
    def test_inductors(self):
        self.assert_rank(net(1, part(V, (1, 0), 5), part(L, (1, 0), 3)), 3, 2, 0)
        self.assert_rank(net(1, part(V, (1, 0), 0), part(L, (1, 0), 3)), 3, 2, 1)
        self.assert_rank(net(1, part(R, (1, 0)), part(L, (1, 0), 3), part(L, (1, 0), 4)), 4, 3, 1)

    def test_coupled_inductors(self):
        for top in (-2, 0, 1, 2):
            row = net(1, part(L, (1, 0), 2), part(L, (1, 0), 2), part(M, (0, 1), top), part(R, (1, 0)))
            self.assert_rank(row, 4, 3, 1)

    def test_capacitors(self):
        self.assert_rank(net(2, part(V, (1, 0), 5), part(C, (1, 2), 3)), 4, 3, 1)
        self.assert_rank(net(2, part(V, (1, 0), 5), part(C, (1, 2), 3), part(C, (2, 0), 3)), 5, 4, 1)
        self.assert_rank(net(1, part(I, (0, 1), 5), part(C, (1, 0), 3)), 3, 2, 0)
        self.assert_rank(net(1, part(I, (0, 1), 0), part(C, (1, 0), 3)), 3, 2, 1)

    def test_switches(self):
        self.assert_rank(net(1, part(V, (1, 0), 5), part(S, (1, 0), 1)), 3, 2, 0)
        self.assert_rank(net(1, part(V, (1, 0), 5), part(S, (1, 0), 0)), 3, 3, 1)
        self.assert_rank(net(1, part(I, (0, 1), 5), part(S, (1, 0), 1)), 3, 3, 1)
        self.assert_rank(net(1, part(I, (0, 1), 5), part(S, (1, 0), 0)), 3, 2, 0)


class WithoutAnOperatingPoint(RankCase):
    def assert_rank(self, row, unknowns, expected, solvable):
        self.assertEqual(point(row), [-4])
        super().assert_rank(row, unknowns, expected, solvable)

    def test_all_off_and_the_conditions_aside(self):
        # Off its voltage is 5, above its number.
        self.assert_rank(net(1, part(V, (1, 0), 5), part(D, (1, 0), 1)), 3, 3, 1)
        row = net(3, part(D, (2, 3), 1), part(V, (1, 0), 2), part(H, (2, 1, 0), 2), part(R, (3, 0), 1))
        self.assert_rank(row, 7, 7, 1)

    def test_all_off_though_on_would_be_regular(self):
        # On its current would be below 0.
        self.assert_rank(net(1, part(I, (1, 0), 2), part(D, (1, 0), 1)), 3, 2, 0)

    def test_all_off_though_others_would_have_no_solution(self):
        self.assert_rank(net(1, part(V, (1, 0), 5), part(D, (1, 0), 1), part(D, (1, 0), 2)), 4, 4, 1)

    def test_diodes_beside_what_is_not_regular(self):
        self.assert_rank(net(2, part(V, (1, 0), 5), part(R, (1, 0)), part(D, (1, 0), 9)), 5, 4, 1)
        self.assert_rank(net(1, part(V, (1, 0), 5), part(V, (1, 0), 6), part(D, (1, 0), 9)), 4, 3, 0)

    def test_it_is_no_refusal(self):
        for kind in KINDS:
            row = changed(sample(kind), 0, 8)
            self.assertEqual(point(row), [-4])
            self.assertEqual(rank(row)[0], 0)
            self.assertEqual(rank(row)[1], judge(row)[4])

    def test_all_ends_at_the_ground(self):
        expected = {
            R: (2, 1, 1), C: (2, 1, 1), L: (2, 0, 1), M: (3, 0, 1), V: (2, 0, 0), I: (2, 1, 1), E: (2, 0, 1),
            G: (2, 1, 1), H: (3, 1, 1), F: (3, 2, 1), T: (3, 1, 1), O: (2, 0, 1), S: (2, 0, 1), D: (2, 1, 1),
        }
        for kind in KINDS:
            self.assert_rank(sample(kind), *expected[kind])


class Refused(unittest.TestCase):
    def test_no_row(self):
        for row in ([], [0], [9], [1, 0], net(1, *[part(R)] * 15), net(1, *[part(D)] * 6)):
            self.assertEqual(rank(row), [-1])

    def test_a_wrong_network(self):
        self.assertEqual(rank(net(1, part(R, (2, 0)))), [-2, 0, 1])
        self.assertEqual(rank(net(1, part(V), part(R, top=0))), [-2, 1, 2])
        self.assertEqual(rank(net(1, part(H))), [-2, 0, 3])


if __name__ == "__main__":
    unittest.main()
