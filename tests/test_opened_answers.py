"""The open voltage and the resistance between two nodes."""

import itertools
import unittest
from fractions import Fraction

from netrows import C, D, E, F, G, H, I, L, M, O, R, S, T, V
from netrows import net, part
from restingnets.nets import at, judge, opened, point

MOST = 4294967295

DIVIDER = net(2, part(V, (1, 0), 12), part(R, (1, 2), 3), part(R, (2, 0), 1))
BRIDGE = net(
    3, part(V, (1, 0), 10), part(R, (1, 2), 1), part(R, (2, 0), 2), part(R, (1, 3), 3), part(R, (3, 0), 4),
)
FOLLOWER = net(3, part(V, (1, 0), 6), part(R, (1, 2), 4), part(E, (3, 0, 2, 0), 3), part(R, (3, 2), 1))
TRANSFORMER = net(3, part(V, (1, 0), 6), part(R, (1, 2), 18), part(T, (2, 0, 3, 0), 3), part(R, (3, 0), 4))
AMPLIFIER = net(
    4, part(V, (1, 0), 1), part(R, (1, 2), 1), part(R, (2, 3), 3), part(O, (3, 0, 0, 2)), part(R, (3, 4), 2),
)
LAMP = net(2, part(V, (1, 0), 5), part(R, (1, 2), 10), part(D, (2, 0), 7, 10), part(D, (0, 2), 1))
FIGHT = net(1, part(V, (1, 0), 1), part(V, (1, 0), 2))


class OpenedCase(unittest.TestCase):
    def assert_opened(self, row, a, b, voltage, resistance):
        self.assertEqual(judge(row)[0], 0)
        expected = [0, *Fraction(voltage).as_integer_ratio(), *Fraction(resistance).as_integer_ratio()]
        with self.subTest(a=a, b=b):
            self.assertEqual(opened(a, b, row), expected)


class OrdinaryNetworks(OpenedCase):
    def test_a_divider(self):
        self.assertEqual(opened(2, 0, DIVIDER), [0, 3, 1, 3, 4])
        self.assertEqual(opened(0, 2, DIVIDER), [0, -3, 1, 3, 4])
        self.assertEqual(opened(1, 2, DIVIDER), [0, 9, 1, 3, 4])
        self.assertEqual(opened(1, 0, DIVIDER), [0, 12, 1, 0, 1])

    def test_a_bridge(self):
        self.assert_opened(BRIDGE, 2, 3, Fraction(20, 21), Fraction(2, 3) + Fraction(12, 7))
        self.assert_opened(BRIDGE, 3, 2, Fraction(-20, 21), Fraction(2, 3) + Fraction(12, 7))
        self.assert_opened(BRIDGE, 2, 0, Fraction(20, 3), Fraction(2, 3))

    def test_resistors_alone(self):
        row = net(3, part(R, (1, 2), 1), part(R, (2, 3), 2), part(R, (3, 1), 3), part(R, (3, 0), 100))
        self.assert_opened(row, 1, 2, 0, Fraction(5, 6))
        self.assert_opened(row, 2, 3, 0, Fraction(4, 3))
        self.assert_opened(row, 1, 3, 0, Fraction(3, 2))
        self.assert_opened(row, 3, 0, 0, 100)
        self.assert_opened(row, 1, 0, 0, Fraction(203, 2))

    def test_a_current_source(self):
        row = net(1, part(I, (0, 1), 2, 3), part(R, (1, 0), 6))
        self.assert_opened(row, 1, 0, 4, 6)
        self.assert_opened(row, 0, 1, -4, 6)

    def test_what_does_nothing_at_rest(self):
        row = net(
            4, part(V, (1, 0), 5), part(R, (1, 2), 2), part(L, (2, 3), 9), part(L, (4, 0), 9), part(M, (2, 3), 9),
            part(R, (4, 3), 3), part(C, (3, 0), 7),
        )
        self.assert_opened(row, 3, 0, 3, Fraction(6, 5))
        self.assert_opened(row, 2, 0, 3, Fraction(6, 5))
        self.assert_opened(row, 2, 3, 0, 0)
        self.assert_opened(row, 4, 0, 0, 0)

    def test_switches(self):
        row = net(3, part(V, (1, 0), 5), part(R, (1, 2), 2), part(S, (2, 3), 1), part(S, (3, 0), 0), part(R, (3, 0), 3))
        self.assert_opened(row, 3, 0, 3, Fraction(6, 5))
        self.assert_opened(row, 2, 3, 0, 0)

    def test_an_amplifier(self):
        self.assert_opened(AMPLIFIER, 3, 0, -3, 0)
        self.assert_opened(AMPLIFIER, 4, 0, -3, 2)
        # The amplifier holds node 2 at the ground's voltage.
        self.assert_opened(AMPLIFIER, 2, 0, 0, 0)
        self.assert_opened(AMPLIFIER, 1, 4, 4, 2)

    def test_a_transformer(self):
        # From the second side 18 looks like 18 over 9; from the first 4 looks like 36.
        self.assert_opened(TRANSFORMER, 3, 0, Fraction(4, 3), Fraction(4, 3))
        self.assert_opened(TRANSFORMER, 2, 0, 4, 12)
        self.assert_opened(TRANSFORMER, 1, 2, 2, 12)


class ControlledSources(OpenedCase):
    def test_a_voltage_by_a_voltage(self):
        # Out of node 2 go (v2 less 6) over 4, and v2 less three times v2.
        self.assert_opened(FOLLOWER, 2, 0, Fraction(-6, 7), Fraction(-4, 7))
        self.assert_opened(FOLLOWER, 3, 0, Fraction(-18, 7), 0)

    def test_a_current_by_a_voltage(self):
        for top, bottom, resistance in ((1, 4, 2), (1, 1, Fraction(4, 5)), (-1, 8, 8), (-1, 2, -4)):
            row = net(1, part(R, (1, 0), 4), part(G, (1, 0, 1, 0), top, bottom), part(I, (0, 1), 3))
            self.assert_opened(row, 1, 0, 3 * Fraction(resistance), resistance)

    def test_a_voltage_by_a_current(self):
        row = net(2, part(V, (1, 0), 12), part(R, (1, 2), 3), part(H, (2, 0, 1), 1))
        self.assert_opened(row, 2, 0, 3, 0)
        row = net(3, part(V, (1, 0), 12), part(R, (1, 2), 3), part(H, (3, 0, 1), -5), part(R, (2, 3), 1))
        # With i the first resistor's current: 12 less v2 is 3 i, v2 plus 5 i is i. Then 12 is 0, and i more by 1.
        self.assert_opened(row, 2, 0, 48, -3)

    def test_a_current_by_a_current(self):
        row = net(2, part(V, (1, 0), 12), part(R, (1, 2), 3), part(F, (0, 2, 1), 2), part(R, (2, 0), 1))
        self.assert_opened(row, 2, 0, 6, Fraction(1, 2))

    def test_a_resistance_of_0(self):
        for row in (DIVIDER, BRIDGE, FOLLOWER, TRANSFORMER, AMPLIFIER, LAMP):
            self.assertEqual(opened(1, 0, row)[3:], [0, 1])

    def test_a_resistance_below_0(self):
        row = net(1, part(R, (1, 0), 2, 3), part(G, (1, 0, 1, 0), -7, 4))
        self.assertEqual(opened(1, 0, row), [0, 0, 1, -4, 1])
        row = net(1, part(R, (1, 0), 3, 5), part(G, (1, 0, 1, 0), -7, 4), part(I, (0, 1), 5))
        self.assertEqual(opened(1, 0, row), [0, -60, 1, -12, 1])
        row = net(1, part(R, (1, 0), 7, 5), part(G, (1, 0, 1, 0), -7, 4))
        self.assertEqual(opened(1, 0, row), [0, 0, 1, -28, 29])


class Diodes(OpenedCase):
    def test_on(self):
        # As at the point it is on, with a voltage of 0 for the resistance.
        self.assertEqual(point(LAMP), [0, 1, 0])
        self.assert_opened(LAMP, 2, 0, Fraction(7, 10), 0)
        self.assert_opened(LAMP, 1, 2, Fraction(43, 10), 0)

    def test_off(self):
        row = net(2, part(V, (1, 0), 5), part(R, (1, 2), 10), part(D, (0, 2), 7, 10), part(R, (2, 0), 15))
        self.assertEqual(point(row), [0, 0])
        self.assert_opened(row, 2, 0, 3, 6)

    def test_states_stay_whatever_the_current_put_would_do(self):
        # By itself the current of 1 would switch either diode.
        row = net(1, part(I, (0, 1), 1, 100), part(R, (1, 0), 10), part(D, (1, 0), 1))
        self.assertEqual(point(row), [0, 0])
        self.assert_opened(row, 1, 0, Fraction(1, 10), 10)
        self.assert_opened(row, 0, 1, Fraction(-1, 10), 10)
        row = net(1, part(I, (0, 1), 1, 2), part(R, (1, 0), 10), part(D, (1, 0), 1))
        self.assertEqual(point(row), [0, 1])
        self.assert_opened(row, 0, 1, -1, 0)

    def test_several(self):
        drop = (7, 10)
        row = net(
            4, part(V, (1, 2), 10), part(D, (1, 3), *drop), part(D, (2, 3), *drop), part(D, (0, 1), *drop),
            part(D, (0, 2), *drop), part(R, (3, 4), 50), part(R, (4, 0), 150),
        )
        self.assertEqual(point(row), [0, 1, 0, 0, 1])
        self.assert_opened(row, 3, 0, Fraction(86, 10), 0)
        self.assert_opened(row, 4, 0, Fraction(86 * 3, 40), Fraction(75, 2))


class TwoNodes(OpenedCase):
    ROWS = (DIVIDER, BRIDGE, FOLLOWER, TRANSFORMER, AMPLIFIER, LAMP)

    def test_the_same_twice(self):
        for row in self.ROWS:
            for node in range(row[0] + 1):
                self.assertEqual(opened(node, node, row), [0, 0, 1, 0, 1])

    def test_exchanged(self):
        for row in self.ROWS:
            for a, b in itertools.combinations(range(row[0] + 1), 2):
                there, back = opened(a, b, row), opened(b, a, row)
                self.assertEqual(there[:1] + there[2:], back[:1] + back[2:])
                self.assertEqual(there[1], -back[1])

    def test_the_open_voltage_is_the_nodes_difference(self):
        for row in self.ROWS:
            for a, b in itertools.product(range(row[0] + 1), repeat=2):
                voltage = Fraction(*at(0, a, row)[1:]) - Fraction(*at(0, b, row)[1:])
                self.assertEqual(opened(a, b, row)[1:3], list(voltage.as_integer_ratio()))

    def test_fourteen_elements(self):
        # There is no room for one more in a row, but the current put is none of the row's.
        row = net(8, part(V, (1, 0), 14), *[part(R, (k, k + 1)) for k in range(1, 8)], *[part(R, (8, 0), 6)] * 6)
        self.assertEqual(judge(row), [0, 8, 14, 0, 22])
        self.assert_opened(row, 8, 0, Fraction(7, 4), Fraction(7, 8))
        self.assert_opened(row, 1, 8, Fraction(49, 4), Fraction(7, 8))
        self.assert_opened(row, 3, 5, Fraction(7, 2), Fraction(3, 2))

    def test_large_numerators_and_denominators(self):
        v, r, q = Fraction(-999983, 999979), Fraction(1000000, 999961), Fraction(999953, 1000000)
        row = net(
            2, part(V, (1, 0), -999983, 999979), part(R, (1, 2), 1000000, 999961), part(R, (2, 0), 999953, 1000000),
        )
        self.assert_opened(row, 2, 0, v * q / (r + q), r * q / (r + q))

    def test_numbers_that_are_not_in_lowest_terms(self):
        row = net(2, part(V, (1, 0), 24, 2), part(R, (1, 2), 999999, 333333), part(R, (2, 0), 1000000, 1000000))
        self.assertEqual(opened(2, 0, row), [0, 3, 1, 3, 4])


class AResistorMore(unittest.TestCase):
    """It has the open voltage times its number over its number and the resistance together."""

    def test_between_each_two_nodes(self):
        rows = (DIVIDER, BRIDGE, FOLLOWER, TRANSFORMER, AMPLIFIER)
        for row in rows:
            for a, b in itertools.product(range(row[0] + 1), repeat=2):
                for number in (Fraction(1), Fraction(7, 3), Fraction(1000000), Fraction(1, 1000000)):
                    self.check(row, a, b, number)

    def test_where_diodes_stay_in_their_states(self):
        for number in (Fraction(5), Fraction(1000)):
            self.check(LAMP, 2, 0, number)
            self.check(LAMP, 1, 2, number)
            self.assertEqual(point(LAMP + part(R, (2, 0), *number.as_integer_ratio())), [0, 1, 0])

    def check(self, row, a, b, number):
        answer = opened(a, b, row)
        voltage, resistance = Fraction(*answer[1:3]), Fraction(*answer[3:])
        longer = row + part(R, (a, b), *number.as_integer_ratio())
        with self.subTest(row=row, a=a, b=b, number=number):
            told = at(2, judge(row)[2], longer)
            self.assertEqual(told[0], 0)
            self.assertEqual(Fraction(*told[1:]), voltage * number / (number + resistance))

    def test_that_takes_just_what_the_resistance_gives(self):
        # 4 and -4 together leave nothing that would tell the voltage.
        row = net(1, part(R, (1, 0), 4), part(G, (1, 0, 1, 0), -1, 2), part(I, (0, 1), 3))
        self.assertEqual(opened(1, 0, row), [0, -12, 1, -4, 1])
        self.assertEqual(point(row + part(R, (1, 0), 4)), [-4])


class NoSuchNode(unittest.TestCase):
    def test_above_n(self):
        for last_node in range(1, 9):
            row = net(last_node, *[part(R, (node, 0)) for node in range(1, last_node + 1)])
            self.assertEqual(opened(last_node, 0, row), [0, 0, 1, 1, 1])
            self.assertEqual(opened(0, last_node, row), [0, 0, 1, 1, 1])
            for node in (last_node + 1, 9, 63, MOST):
                self.assertEqual(opened(node, 0, row), [-3])
                self.assertEqual(opened(0, node, row), [-3])
                self.assertEqual(opened(last_node, node, row), [-3])
                self.assertEqual(opened(node, node, row), [-3])

    def test_ahead_of_no_operating_point(self):
        for row in (FIGHT, [1], net(1, part(V, (1, 0), 5), part(D, (1, 0), 1))):
            for a, b in ((2, 0), (0, 2), (1, 2), (2, 2), (MOST, MOST)):
                self.assertEqual(opened(a, b, row), [-3])


class NoOperatingPoint(unittest.TestCase):
    def test_each_two_nodes(self):
        rows = (
            FIGHT, [1], net(1, part(V, (1, 0), 5), part(D, (1, 0), 1)), net(1, part(V, (1, 0)), part(L, (1, 0))),
            net(1, part(I, (1, 0), 2), part(D, (1, 0), 1)),
        )
        for row in rows:
            for a, b in itertools.product((0, 1), repeat=2):
                self.assertEqual(opened(a, b, row), [-4])

    def test_where_another_node_spoils_it(self):
        self.assertEqual(opened(2, 0, net(3, *[DIVIDER[k:k + 7] for k in (1, 8, 15)])), [-4])


if __name__ == "__main__":
    unittest.main()
