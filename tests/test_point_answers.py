"""Which diodes are on at the operating point."""

import itertools
import unittest

from netrows import C, D, E, F, G, H, I, L, M, O, R, S, T, V
from netrows import net, part
from restingnets.nets import judge, point


class PointCase(unittest.TestCase):
    def assert_point(self, row, *states):
        self.assertEqual(judge(row)[0], 0)
        self.assertEqual(point(row), [0, *states])


class WithoutDiodes(PointCase):
    def test_a_divider(self):
        self.assert_point(net(2, part(V, (1, 0), 12), part(R, (1, 2), 3), part(R, (2, 0), 1)))

    def test_nothing_flows(self):
        self.assert_point(net(1, part(R, (1, 0))))

    def test_each_kind_but_the_diode(self):
        row = net(
            8, part(V, (1, 0), 3), part(R, (1, 2), 2), part(L, (2, 3), 4), part(L, (3, 0), 9), part(M, (2, 3), -6),
            part(C, (1, 3), 5), part(E, (4, 0, 1, 0), 2), part(I, (5, 0), 1), part(S, (4, 5), 1),
            part(T, (6, 0, 4, 0), 3), part(G, (2, 0, 1, 0), 1), part(F, (4, 0, 1), 2), part(H, (7, 0, 1), 1),
            part(O, (8, 0, 8, 7)),
        )
        self.assert_point(row)


class OneDiode(PointCase):
    def lamp(self, voltage, places, top, bottom=1):
        return net(2, part(V, (1, 0), voltage), part(R, (1, 2), 3), part(D, places, top, bottom))

    def test_on(self):
        self.assert_point(self.lamp(5, (2, 0), 7, 10), 1)
        self.assert_point(self.lamp(-5, (0, 2), 7, 10), 1)
        self.assert_point(self.lamp(5, (2, 0), 0), 1)

    def test_off(self):
        self.assert_point(self.lamp(5, (0, 2), 7, 10), 0)
        self.assert_point(self.lamp(-5, (2, 0), 7, 10), 0)
        self.assert_point(self.lamp(5, (2, 0), 6), 0)
        self.assert_point(self.lamp(-5, (2, 0), 0), 0)

    def test_off_with_its_voltage_just_at_its_number(self):
        self.assert_point(self.lamp(5, (2, 0), 5), 0)
        self.assert_point(self.lamp(5, (2, 0), 50, 10), 0)
        self.assert_point(self.lamp(0, (2, 0), 0), 0)
        self.assert_point(self.lamp(-5, (0, 2), 5), 0)
        # Straight at the source: on would be two laws for one voltage.
        self.assert_point(net(1, part(V, (1, 0), 2, 3), part(D, (1, 0), 4, 6)), 0)

    def test_on_with_its_voltage_just_above_its_number_when_off(self):
        self.assert_point(self.lamp(5, (2, 0), 499999, 100000), 1)
        self.assert_point(self.lamp(5, (2, 0), 500001, 100000), 0)

    def test_on_with_its_current_just_0(self):
        # Off, nothing tells node 2's voltage.
        self.assert_point(net(2, part(V, (1, 0), 5), part(D, (1, 2), 3)), 1)
        self.assert_point(net(2, part(V, (1, 0), 5), part(D, (2, 1), 3)), 1)
        self.assert_point(net(2, part(V, (1, 0), -5), part(D, (1, 2), 0), part(C, (2, 0))), 1)

    def test_off_is_not_regular_while_on_is(self):
        self.assert_point(net(1, part(I, (0, 1), 2), part(D, (1, 0), 1)), 1)

    def test_on_is_not_regular_while_off_is(self):
        self.assert_point(net(1, part(V, (1, 0), -2), part(D, (1, 0), 1)), 0)

    def test_at_one_node_with_both_ends(self):
        self.assert_point(net(1, part(R, (1, 0)), part(D, (1, 1), 1)), 0)
        self.assert_point(net(1, part(R, (1, 0)), part(D, (0, 0), 0)), 0)

    def test_both_would_do(self):
        # The source rises by twice the diode's current while the resistor takes that once.
        for voltage in (0, 1):
            row = net(
                3, part(D, (2, 3), 1), part(V, (1, 0), voltage), part(H, (2, 1, 0), 2), part(R, (3, 0), 1),
            )
            self.assert_point(row, 0)


class ByEachKind(PointCase):
    """The diode's state goes by what the element of that kind does at s = 0."""

    def test_resistors(self):
        for top, state in ((1, 1), (3, 0), (2, 0)):
            row = net(2, part(V, (1, 0), 3), part(R, (1, 2), top), part(R, (2, 0), 1), part(D, (2, 0), 1))
            self.assert_point(row, state)

    def test_a_capacitor_lets_nothing_through(self):
        row = net(2, part(V, (1, 0), 5), part(C, (1, 2)), part(R, (2, 0)), part(D, (2, 0), 1))
        self.assert_point(row, 0)
        self.assert_point(net(2, part(V, (1, 0), 5), part(R, (1, 2)), part(C, (2, 0)), part(D, (2, 0), 1)), 1)

    def test_an_inductor_has_no_voltage(self):
        self.assert_point(net(3, part(V, (1, 0), 5), part(L, (1, 2)), part(R, (2, 3)), part(D, (3, 0), 1)), 1)
        self.assert_point(net(2, part(V, (1, 0), 5), part(R, (1, 2)), part(L, (2, 0)), part(D, (2, 0), 0)), 0)

    def test_a_mutual_inductance_does_nothing(self):
        for top in (-1, 0, 1):
            row = net(
                4, part(V, (1, 0), 5), part(R, (1, 2)), part(L, (2, 0)), part(L, (3, 0)), part(M, (3, 2), top),
                part(R, (3, 4)), part(D, (4, 0), 0), part(D, (0, 4), 0),
            )
            self.assert_point(row, 0, 0)

    def test_a_voltage_source(self):
        for places, state in (((1, 0), 1), ((0, 1), 0)):
            self.assert_point(net(2, part(V, places, 5), part(R, (1, 2)), part(D, (2, 0), 1)), state)

    def test_a_current_source(self):
        for places, state in (((0, 1), 1), ((1, 0), 0)):
            self.assert_point(net(1, part(I, places, 5), part(R, (1, 0)), part(D, (1, 0), 1)), state)

    def test_a_voltage_by_a_voltage(self):
        for places, top, state in (
            ((2, 0, 1, 0), 3, 1), ((2, 0, 0, 1), 3, 0), ((0, 2, 1, 0), -3, 1), ((2, 0, 1, 0), 1, 0),
        ):
            row = net(3, part(V, (1, 0), 1), part(E, places, top), part(R, (2, 3)), part(D, (3, 0), 2))
            self.assert_point(row, state)

    def test_a_current_by_a_voltage(self):
        for places, top, state in (
            ((0, 2, 1, 0), 3, 1), ((0, 2, 0, 1), 3, 0), ((2, 0, 1, 0), -3, 1), ((0, 2, 1, 0), 2, 0),
        ):
            row = net(2, part(V, (1, 0), 1), part(G, places, top), part(R, (2, 0)), part(D, (2, 0), 2))
            self.assert_point(row, state)

    def test_a_voltage_by_a_current(self):
        # A current of 2 out of node 1 through the resistor; the source's own is -2.
        for x, top, state in ((1, 3, 1), (1, -3, 0), (0, 3, 0), (0, -3, 1), (1, 1, 0)):
            row = net(
                3, part(V, (1, 0), 4), part(R, (1, 0), 2), part(H, (2, 0, x), top), part(R, (2, 3)), part(D, (3, 0), 2),
            )
            self.assert_point(row, state)

    def test_a_current_by_a_current(self):
        for x, top, state in ((1, 3, 1), (1, -3, 0), (0, 3, 0), (0, -3, 1), (1, 1, 0)):
            row = net(
                2, part(V, (1, 0), 4), part(R, (1, 0), 2), part(F, (0, 2, x), top), part(R, (2, 0)), part(D, (2, 0), 2),
            )
            self.assert_point(row, state)

    def test_a_transformer(self):
        # v = q w with v 6: w is 6 over q.
        for top, bottom, state in ((3, 1, 0), (2, 1, 1), (-2, 1, 0), (1, 2, 1)):
            row = net(3, part(V, (1, 0), 6), part(T, (1, 0, 2, 0), top, bottom), part(R, (2, 3)), part(D, (3, 0), 2))
            self.assert_point(row, state)

    def test_an_amplifier(self):
        # Turns 1 into -3.
        parts = [part(V, (1, 0), 1), part(R, (1, 2), 1), part(R, (2, 3), 3), part(O, (3, 0, 0, 2)), part(R, (3, 4))]
        self.assert_point(net(4, *parts, part(D, (4, 0), 2)), 0)
        self.assert_point(net(4, *parts, part(D, (0, 4), 2)), 1)
        self.assert_point(net(4, *parts, part(D, (0, 4), 3)), 0)

    def test_a_switch(self):
        for bottom in (1, 4):
            for top, state in ((bottom, 1), (0, 0)):
                row = net(
                    3, part(V, (1, 0), 5), part(S, (1, 2), top, bottom), part(R, (2, 0)), part(R, (2, 3)),
                    part(D, (3, 0), 2),
                )
                self.assert_point(row, state)


class SeveralDiodes(PointCase):
    def bridge(self, voltage):
        drop = (7, 10)
        return net(
            3, part(V, (1, 2), voltage), part(D, (1, 3), *drop), part(D, (2, 3), *drop), part(D, (0, 1), *drop),
            part(D, (0, 2), *drop), part(R, (3, 0), 100),
        )

    def test_a_bridge_of_four(self):
        self.assert_point(self.bridge(10), 1, 0, 0, 1)
        self.assert_point(self.bridge(-10), 0, 1, 1, 0)

    def test_each_row_of_five_states(self):
        for states in itertools.product((0, 1), repeat=5):
            branches = []
            for k, state in enumerate(states):
                branches.append(part(R, (1, k + 2), k + 1))
                branches.append(part(D, (k + 2, 0) if state else (0, k + 2), 1, k + 1))
            self.assert_point(net(6, part(V, (1, 0), 3), *branches), *states)

    def test_the_greater_of_two_voltages(self):
        for first, second, states in ((5, 3, (1, 0)), (3, 5, (0, 1)), (-1, -2, (0, 0))):
            row = net(
                3, part(V, (1, 0), first), part(V, (2, 0), second), part(D, (1, 3), 1), part(D, (2, 3), 1),
                part(R, (3, 0), 10),
            )
            self.assert_point(row, *states)

    def test_equal_voltages_the_last_one_is_on(self):
        # On both would be three laws for one voltage around; either by itself would do.
        row = net(
            3, part(V, (1, 0), 5), part(V, (2, 0), 5), part(D, (1, 3), 1), part(D, (2, 3), 1), part(R, (3, 0), 10),
        )
        self.assert_point(row, 0, 1)

    def test_side_by_side_the_first_diode_counts_most(self):
        for count in range(1, 6):
            row = net(1, part(I, (0, 1), 2), *[part(D, (1, 0), 0)] * count)
            self.assert_point(row, *[0] * (count - 1), 1)

    def test_side_by_side_the_lowest_number_is_on(self):
        row = net(1, part(I, (0, 1), 2), part(D, (1, 0), 3), part(D, (1, 0), 1), part(D, (1, 0), 2))
        self.assert_point(row, 0, 1, 0)

    def test_in_a_row_the_first_is_off_where_the_source_is_too_weak(self):
        for voltage, first in ((11, 1), (5, 0), (4, 0), (-9, 0)):
            chain = [part(D, (k, k + 1), 1) for k in range(2, 7)]
            row = net(8, part(V, (1, 0), voltage), part(R, (1, 2)), *chain, part(R, (7, 8)), part(R, (8, 0)))
            self.assert_point(row, first, 1, 1, 1, 1)

    def test_two_rows_would_do_with_more_than_one_state_between_them(self):
        # Two diodes that hold one another down: each that is on draws the other's node below 0.
        parts = [
            part(V, (1, 0), 5), part(R, (1, 2)), part(R, (1, 3)), part(D, (2, 4), 1), part(D, (3, 5), 1),
            part(R, (4, 0)), part(R, (5, 0)), part(G, (2, 0, 5, 0), 9), part(G, (3, 0, 4, 0), 9),
        ]
        self.assert_point(net(5, *parts), 0, 1)

    def test_diodes_among_other_elements_are_told_in_their_order(self):
        row = net(
            4, part(D, (0, 2), 1), part(V, (1, 0), 9), part(R, (1, 2)), part(D, (2, 0), 1), part(R, (1, 3)),
            part(D, (3, 0), 10), part(R, (1, 4)), part(D, (4, 0), 8),
        )
        self.assert_point(row, 0, 1, 0, 1)


class Greatest(PointCase):
    def test_fourteen_elements_eight_nodes_five_diodes(self):
        row = net(
            8, part(V, (1, 0), 20), part(R, (1, 2), 1), part(D, (2, 3), 1), part(R, (3, 4), 1), part(D, (4, 5), 1),
            part(R, (5, 6), 1), part(D, (6, 7), 1), part(R, (7, 8), 1), part(D, (8, 0), 1), part(D, (0, 8), 1),
            part(C, (3, 0)), part(R, (3, 0), 1), part(R, (5, 0), 1), part(R, (7, 0), 1),
        )
        # Node 3 has 8, node 5 has 3, node 7 has 4 over 5: too little for the fourth diode.
        self.assert_point(row, 1, 1, 1, 0, 0)

    def test_fourteen_elements_with_the_greatest_numbers(self):
        most = 1000000
        rungs = []
        for k in range(2, 7):
            rungs.append(part(R, (k - 1, k), most - k, most))
            rungs.append(part(D, (k, 0), 1, most - k))
        row = net(8, part(V, (1, 0), most), *rungs, part(R, (6, 7), 1, most), part(R, (7, 8), most), part(R, (8, 0), 1))
        # The first diode holds node 2 at its number; what is left is below the others'.
        self.assert_point(row, 1, 0, 0, 0, 0)

    def test_fourteen_transformers(self):
        row = net(8, *[part(T, (1, 0, 0, 0), 1)] * 14)
        self.assertEqual(judge(row), [0, 8, 14, 0, 36])
        self.assertEqual(point(row), [-4])

    def test_transformers_in_a_row(self):
        chain = [part(T, (k, 0, k + 1, 0), 999983, 1000000 - k) for k in range(1, 7)]
        row = net(8, part(V, (1, 0), 5), *chain, part(R, (7, 8), 3), part(D, (8, 0), 1), part(D, (0, 8), 1))
        self.assert_point(row, 1, 0)


class NoOperatingPoint(unittest.TestCase):
    def assert_none(self, row):
        self.assertEqual(judge(row)[0], 0)
        self.assertEqual(point(row), [-4])

    def test_no_elements(self):
        for last_node in range(1, 9):
            self.assert_none([last_node])

    def test_a_node_that_nothing_touches(self):
        self.assert_none(net(2, part(V, (1, 0)), part(R, (1, 0))))

    def test_sources_that_fight(self):
        for second in (1, 2):
            self.assert_none(net(1, part(V, (1, 0), 1), part(V, (1, 0), second)))
        self.assert_none(net(2, part(I, (0, 1), 1), part(I, (1, 2), 2), part(R, (2, 0))))

    def test_an_inductor_at_a_source(self):
        self.assert_none(net(1, part(V, (1, 0)), part(L, (1, 0))))

    def test_a_node_behind_a_capacitor(self):
        self.assert_none(net(2, part(V, (1, 0)), part(C, (1, 2))))

    def test_a_closed_switch_at_a_source_and_a_node_behind_an_open_one(self):
        self.assert_none(net(1, part(V, (1, 0)), part(S, (1, 0), 1)))
        self.assert_none(net(2, part(V, (1, 0)), part(S, (1, 2), 0)))

    def test_no_row_of_states_is_regular(self):
        self.assert_none(net(2, part(V, (1, 0), 1), part(D, (1, 0), 2)))
        self.assert_none(net(1, part(V, (1, 0), 1), part(V, (1, 0), 1), part(D, (1, 0), 2), part(D, (0, 1), 2)))

    def test_the_conditions_hold_for_no_row(self):
        # Off its voltage is above its number; on it is a second law for the source's voltage.
        self.assert_none(net(1, part(V, (1, 0), 5), part(D, (1, 0), 1)))
        self.assert_none(net(1, part(V, (1, 0), 500001, 100000), part(D, (1, 0), 5)))
        # Off nothing tells the node's voltage; on its current would be below 0.
        self.assert_none(net(1, part(I, (1, 0), 2), part(D, (1, 0), 1)))

    def test_both_rows_are_regular_but_neither_condition_holds(self):
        row = net(3, part(D, (2, 3), 1), part(V, (1, 0), 2), part(H, (2, 1, 0), 2), part(R, (3, 0), 1))
        self.assert_none(row)

    def test_one_diode_of_several_spoils_it(self):
        good = [part(R, (1, 2)), part(D, (2, 0), 1)]
        self.assertEqual(point(net(2, part(V, (1, 0), 5), *good)), [0, 1])
        self.assert_none(net(2, part(V, (1, 0), 5), *good, part(D, (1, 0), 1)))
        self.assert_none(net(2, part(V, (1, 0), 5), part(D, (1, 0), 1), *good))


if __name__ == "__main__":
    unittest.main()
