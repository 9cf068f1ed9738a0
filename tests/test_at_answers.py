"""The quantities at the operating point."""

import unittest
from fractions import Fraction

from netrows import C, D, E, F, G, H, I, L, M, NAMES, O, R, S, T, V
from netrows import net, part
from restingnets.nets import at, judge

MOST = 4294967295
NODE, CURRENT, VOLTAGE, POWER = range(4)

DIVIDER = net(2, part(V, (1, 0), 12), part(R, (1, 2), 3), part(R, (2, 0), 1))
FIGHT = net(1, part(V, (1, 0), 1), part(V, (1, 0), 2))


class AtCase(unittest.TestCase):
    def assert_at(self, row, what, k, top, bottom=1):
        self.assertEqual(judge(row)[0], 0)
        with self.subTest(what=what, k=k):
            self.assertEqual(at(what, k, row), [0, top, bottom])

    def assert_nodes(self, row, *voltages):
        for node, voltage in enumerate((0, *voltages)):
            self.assert_at(row, NODE, node, *Fraction(voltage).as_integer_ratio())

    def assert_part(self, row, k, current, voltage):
        current, voltage = Fraction(current), Fraction(voltage)
        self.assert_at(row, CURRENT, k, current.numerator, current.denominator)
        self.assert_at(row, VOLTAGE, k, voltage.numerator, voltage.denominator)
        power = current * voltage
        self.assert_at(row, POWER, k, power.numerator, power.denominator)


class Divider(AtCase):
    def test_each_quantity_written_out(self):
        for what, k, top in (
            (0, 0, 0), (0, 1, 12), (0, 2, 3), (1, 0, -3), (1, 1, 3), (1, 2, 3), (2, 0, 12), (2, 1, 9), (2, 2, 3),
            (3, 0, -36), (3, 1, 27), (3, 2, 9),
        ):
            self.assertEqual(at(what, k, DIVIDER), [0, top, 1])

    def test_turned_round(self):
        row = net(2, part(V, (0, 1), 12), part(R, (2, 1), 3), part(R, (0, 2), 1))
        self.assert_nodes(row, -12, -3)
        self.assert_part(row, 0, -3, 12)
        self.assert_part(row, 1, 3, 9)
        self.assert_part(row, 2, 3, 3)

    def test_fractions_in_lowest_terms(self):
        row = net(2, part(V, (1, 0), 1, 2), part(R, (1, 2), 3, 4), part(R, (2, 0), 5, 6))
        self.assertEqual(at(NODE, 2, row), [0, 5, 19])
        self.assertEqual(at(CURRENT, 1, row), [0, 6, 19])
        self.assertEqual(at(CURRENT, 0, row), [0, -6, 19])
        self.assertEqual(at(VOLTAGE, 1, row), [0, 9, 38])
        self.assertEqual(at(POWER, 0, row), [0, -3, 19])
        self.assertEqual(at(POWER, 1, row), [0, 27, 361])

    def test_nothing_flows(self):
        row = net(2, part(V, (1, 0), 0, 7), part(R, (1, 2), 3), part(R, (2, 0), 999999))
        for what in range(4):
            for k in range(3):
                self.assertEqual(at(what, k, row), [0, 0, 1])


class EachKind(AtCase):
    def test_a_resistor_at_one_node(self):
        row = net(1, part(I, (0, 1), 2), part(R, (1, 0), 3), part(R, (1, 1), 5), part(R, (0, 0), 7))
        self.assert_nodes(row, 6)
        self.assert_part(row, 2, 0, 0)
        self.assert_part(row, 3, 0, 0)

    def test_a_capacitor(self):
        row = net(2, part(V, (1, 0), 5), part(R, (1, 2), 2), part(C, (2, 0), 9))
        self.assert_nodes(row, 5, 5)
        self.assert_part(row, 2, 0, 5)
        self.assert_part(row, 1, 0, 0)

    def test_an_inductor(self):
        row = net(2, part(V, (1, 0), 5), part(R, (1, 2), 2), part(L, (2, 0), 9))
        self.assert_nodes(row, 5, 0)
        self.assert_part(row, 2, Fraction(5, 2), 0)

    def test_coupled_inductors(self):
        row = net(
            4, part(V, (1, 0), 5), part(R, (1, 2), 2), part(L, (2, 0), 9), part(L, (3, 4), 4), part(M, (2, 3), 6),
            part(I, (0, 3), 7), part(R, (4, 0), 1),
        )
        self.assert_nodes(row, 5, 0, 7, 7)
        self.assert_part(row, 2, Fraction(5, 2), 0)
        self.assert_part(row, 3, 7, 0)

    def test_a_current_source(self):
        row = net(1, part(I, (0, 1), 2, 3), part(R, (1, 0), 6))
        self.assert_nodes(row, 4)
        self.assert_part(row, 0, Fraction(2, 3), -4)
        self.assert_part(row, 1, Fraction(2, 3), 4)

    def test_sources_at_one_node(self):
        row = net(1, part(I, (1, 1), 2), part(R, (1, 0), 6), part(I, (0, 0), 3))
        self.assert_nodes(row, 0)
        self.assert_part(row, 0, 2, 0)
        self.assert_part(row, 2, 3, 0)

    def test_a_voltage_by_a_voltage(self):
        row = net(2, part(V, (1, 0), 4), part(E, (2, 0, 1, 0), -3, 2), part(R, (2, 0), 5))
        self.assert_nodes(row, 4, -6)
        self.assert_part(row, 0, 0, 4)
        self.assert_part(row, 1, Fraction(6, 5), -6)
        self.assert_part(row, 2, Fraction(-6, 5), -6)

    def test_a_current_by_a_voltage(self):
        row = net(2, part(V, (1, 0), 4), part(G, (2, 0, 1, 0), 1, 2), part(R, (2, 0), 5))
        self.assert_nodes(row, 4, -10)
        self.assert_part(row, 0, 0, 4)
        self.assert_part(row, 1, 2, -10)

    def test_a_voltage_by_a_current(self):
        row = net(2, part(V, (1, 0), 4), part(R, (1, 0), 2), part(H, (2, 0, 1), 3), part(R, (2, 0), 4))
        self.assert_nodes(row, 4, 6)
        self.assert_part(row, 2, Fraction(-3, 2), 6)

    def test_a_current_by_a_current(self):
        row = net(2, part(V, (1, 0), 4), part(R, (1, 0), 2), part(F, (2, 0, 1), 3), part(R, (2, 0), 4))
        self.assert_nodes(row, 4, -24)
        self.assert_part(row, 2, 6, -24)

    def test_by_the_current_of_each_kind(self):
        # For each kind elements whose last is of it, and its current.
        ahead = {
            R: ([part(V, (1, 0), 6), part(R, (1, 0), 2)], 3),
            C: ([part(V, (1, 0), 6), part(C, (1, 0), 2)], 0),
            L: ([part(I, (0, 1), 6), part(L, (1, 0), 2)], 6),
            V: ([part(R, (1, 0), 2), part(V, (1, 0), 6)], -3),
            I: ([part(R, (1, 0), 2), part(I, (1, 0), 6)], 6),
            E: ([part(R, (1, 0), 2), part(V, (3, 0), 1), part(E, (1, 0, 3, 0), 6)], -3),
            G: ([part(R, (1, 0), 2), part(V, (3, 0), 1), part(G, (1, 0, 3, 0), 6)], 6),
            H: ([part(R, (1, 0), 2), part(I, (0, 0), 1), part(H, (1, 0, 1), 6)], -3),
            F: ([part(R, (1, 0), 2), part(I, (0, 0), 1), part(F, (1, 0, 1), 6)], 6),
            T: ([part(V, (1, 0), 6), part(R, (3, 0), 2), part(T, (1, 0, 3, 0), 3)], Fraction(1, 3)),
            O: ([part(R, (1, 0), 2), part(V, (3, 0), 6), part(O, (1, 0, 3, 1))], -3),
            S: ([part(I, (0, 1), 6), part(S, (1, 0), 1)], 6),
            D: ([part(I, (0, 1), 6), part(D, (1, 0), 1)], 6),
        }
        for kind, (parts, current) in ahead.items():
            touched = any(3 in numbers[1:5] for numbers in parts)
            ground = [] if touched else [part(V, (3, 0), 0)]
            for follower, expected in ((H, 5 * current), (F, -35 * current)):
                row = net(3, *parts, part(follower, (2, 0, len(parts) - 1), 5), part(R, (2, 0), 7), *ground)
                with self.subTest(kind=NAMES[kind], follower=NAMES[follower]):
                    self.assert_at(row, CURRENT, len(parts) - 1, *Fraction(current).as_integer_ratio())
                    self.assert_at(row, NODE, 2, *Fraction(expected).as_integer_ratio())

    def test_a_transformer_the_first_pairs(self):
        row = net(2, part(V, (1, 0), 6), part(T, (1, 0, 2, 0), 3), part(R, (2, 0), 4))
        self.assert_nodes(row, 6, 2)
        self.assert_part(row, 0, Fraction(-1, 6), 6)
        self.assert_part(row, 1, Fraction(1, 6), 6)
        self.assert_part(row, 2, Fraction(1, 2), 2)

    def test_a_transformer_turned_round(self):
        row = net(2, part(V, (1, 0), 6), part(T, (1, 0, 0, 2), 3, 2), part(R, (2, 0), 4))
        self.assert_nodes(row, 6, -4)
        self.assert_part(row, 1, Fraction(2, 3), 6)
        self.assert_part(row, 2, -1, -4)

    def test_an_amplifier(self):
        row = net(
            3, part(V, (1, 0), 1), part(R, (1, 2), 1), part(R, (2, 3), 3), part(O, (3, 0, 0, 2)), part(R, (3, 0), 2),
        )
        self.assert_nodes(row, 1, 0, -3)
        self.assert_part(row, 2, 1, 3)
        self.assert_part(row, 3, Fraction(5, 2), -3)
        self.assert_part(row, 4, Fraction(-3, 2), -3)

    def test_a_switch(self):
        for top, second, current, voltage in ((1, 5, Fraction(5, 2), 0), (0, 0, 0, 5), (3, 5, Fraction(5, 2), 0)):
            row = net(2, part(V, (1, 0), 5), part(S, (1, 2), top, top or 4), part(R, (2, 0), 2))
            self.assert_nodes(row, 5, second)
            self.assert_part(row, 1, current, voltage)

    def test_a_diode_that_is_on(self):
        row = net(2, part(V, (1, 0), 5), part(R, (1, 2), 10), part(D, (2, 0), 7, 10))
        self.assert_nodes(row, 5, Fraction(7, 10))
        self.assert_part(row, 2, Fraction(43, 100), Fraction(7, 10))

    def test_a_diode_that_is_off(self):
        row = net(2, part(V, (1, 0), 5), part(R, (1, 2), 10), part(D, (0, 2), 7, 10))
        self.assert_nodes(row, 5, 5)
        self.assert_part(row, 2, 0, -5)

    def test_at_the_first_of_several_rows_of_states(self):
        row = net(1, part(I, (0, 1), 2), part(D, (1, 0), 3), part(D, (1, 0), 3))
        self.assert_nodes(row, 3)
        self.assert_part(row, 1, 0, 3)
        self.assert_part(row, 2, 2, 3)


class Numbers(AtCase):
    def test_numbers_that_are_not_in_lowest_terms(self):
        row = net(2, part(V, (1, 0), 24, 2), part(R, (1, 2), 999999, 333333), part(R, (2, 0), 1000000, 1000000))
        for what in range(4):
            for k in range(3):
                self.assertEqual(at(what, k, row), at(what, k, DIVIDER))

    def test_large_numerators_and_denominators(self):
        v, r, q = Fraction(-999983, 999979), Fraction(1000000, 999961), Fraction(999953, 1000000)
        row = net(
            2, part(V, (1, 0), -999983, 999979), part(R, (1, 2), 1000000, 999961), part(R, (2, 0), 999953, 1000000),
        )
        self.assert_nodes(row, v, v * q / (r + q))
        self.assert_part(row, 0, -v / (r + q), v)
        self.assert_part(row, 1, v / (r + q), v * r / (r + q))

    def test_a_long_row_of_transformers(self):
        top, bottom = 999983, 999979
        chain = [part(T, (k, 0, k + 1, 0), top, bottom) for k in range(1, 8)]
        row = net(8, part(V, (1, 0), 1), *chain, part(R, (8, 0), 999961, 999953))
        voltage = Fraction(bottom, top) ** 7
        self.assert_nodes(row, *[Fraction(bottom, top) ** k for k in range(8)])
        self.assert_part(row, 8, voltage * Fraction(999953, 999961), voltage)
        self.assert_part(row, 0, -voltage * voltage * Fraction(999953, 999961), 1)

    def test_fourteen_elements_eight_nodes(self):
        # A ladder of resistors of 1, reckoned from its end as if the last voltage were 1.
        steps = [part(R, (k, k + 1)) for k in range(1, 8)]
        rungs = [part(R, (k, 0)) for k in (3, 4, 5, 6, 7, 8)]
        row = net(8, part(V, (1, 0), 1000), *steps, *rungs)
        self.assertEqual(judge(row), [0, 8, 14, 0, 22])
        voltages, current = [Fraction(1)], Fraction(1)
        for node in (7, 6, 5, 4, 3, 2, 1):
            voltages.append(voltages[-1] + current)
            current += voltages[-1] if node > 2 else 0
        scale = 1000 / voltages[-1]
        self.assert_nodes(row, *[voltage * scale for voltage in reversed(voltages)])
        self.assert_part(row, 0, -current * scale, 1000)


class NoSuchQuantity(unittest.TestCase):
    def test_nodes(self):
        for last_node in range(1, 9):
            row = net(last_node, *[part(R, (node, 0)) for node in range(1, last_node + 1)])
            self.assertEqual(at(NODE, last_node, row), [0, 0, 1])
            for node in (last_node + 1, 9, 63, MOST):
                self.assertEqual(at(NODE, node, row), [-3])

    def test_elements(self):
        for count in (1, 2, 13, 14):
            row = net(1, *[part(R, (1, 0))] * count)
            for what in (CURRENT, VOLTAGE, POWER):
                self.assertEqual(at(what, count - 1, row)[0], 0)
                for k in (count, count + 1, 63, MOST):
                    self.assertEqual(at(what, k, row), [-3])

    def test_a_node_may_be_numbered_above_the_elements_and_an_element_above_n(self):
        row = net(4, part(V, (1, 0), 3), part(V, (2, 0), 4), part(T, (3, 0, 4, 0), 1), part(R, (4, 0)))
        self.assertEqual(at(NODE, 4, row), [0, 0, 1])
        self.assertEqual(at(CURRENT, 4, row), [-3])
        row = net(1, part(V, (1, 0), 3), part(R, (1, 0)), part(R, (1, 0), 6))
        self.assertEqual(at(CURRENT, 2, row), [0, 1, 2])
        self.assertEqual(at(NODE, 2, row), [-3])

    def test_whats(self):
        self.assertEqual(at(3, 0, DIVIDER), [0, -36, 1])
        for what in (4, 5, 63, MOST):
            for k in (0, 1, 3, MOST):
                self.assertEqual(at(what, k, DIVIDER), [-3])

    def test_a_mutual_inductance(self):
        row = net(2, part(L, (1, 0)), part(L, (2, 0)), part(M, (0, 1)), part(I, (1, 2), 4))
        self.assertEqual(at(NODE, 2, row), [0, 0, 1])
        self.assertEqual(at(CURRENT, 1, row), [0, 4, 1])
        self.assertEqual(at(CURRENT, 3, row), [0, 4, 1])
        for what in (CURRENT, VOLTAGE, POWER):
            self.assertEqual(at(what, 2, row), [-3])

    def test_ahead_of_no_operating_point(self):
        for what, k in ((NODE, 2), (NODE, MOST), (CURRENT, 2), (VOLTAGE, 2), (POWER, MOST), (4, 0), (MOST, MOST)):
            self.assertEqual(at(what, k, FIGHT), [-3])
        row = net(2, part(L, (1, 0)), part(L, (1, 0)), part(M, (0, 1)))
        for what in (CURRENT, VOLTAGE, POWER):
            self.assertEqual(at(what, 2, row), [-3])
            self.assertEqual(at(what, 1, row), [-4])
        for node in range(1, 3):
            self.assertEqual(at(CURRENT, 0, [node]), [-3])


class NoOperatingPoint(unittest.TestCase):
    def test_each_quantity(self):
        for what, k in ((NODE, 1), (CURRENT, 0), (CURRENT, 1), (VOLTAGE, 1), (POWER, 1)):
            self.assertEqual(at(what, k, FIGHT), [-4])

    def test_the_ground_too(self):
        for row in (FIGHT, [1], [8], net(2, part(V, (1, 0)), part(R, (1, 0)))):
            self.assertEqual(at(NODE, 0, row), [-4])

    def test_a_quantity_that_the_laws_would_tell(self):
        row = net(2, part(V, (1, 0), 5), part(R, (1, 0), 2))
        self.assertEqual(at(CURRENT, 1, row), [-4])

    def test_the_diodes_conditions_hold_for_no_row(self):
        row = net(1, part(V, (1, 0), 5), part(D, (1, 0), 1))
        for what, k in ((NODE, 0), (NODE, 1), (CURRENT, 0), (VOLTAGE, 1), (POWER, 1)):
            self.assertEqual(at(what, k, row), [-4])


if __name__ == "__main__":
    unittest.main()
