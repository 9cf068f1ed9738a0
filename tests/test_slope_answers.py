"""The slopes of the quantities at the operating point by the elements' numbers."""

import unittest
from fractions import Fraction

from netrows import C, D, E, F, G, H, I, L, M, O, R, S, T, V
from netrows import net, part
from restingnets.nets import at, judge, point, slope

MOST = 4294967295
NODE, CURRENT, VOLTAGE, POWER = range(4)

DIVIDER = net(2, part(V, (1, 0), 12), part(R, (1, 2), 3), part(R, (2, 0), 1))
FIGHT = net(1, part(V, (1, 0), 1), part(V, (1, 0), 2))
BY_VOLTAGE = net(2, part(V, (1, 0), 4), part(E, (2, 0, 1, 0), -3, 2), part(R, (2, 0), 5))
CURRENT_BY_VOLTAGE = net(2, part(V, (1, 0), 4), part(G, (2, 0, 1, 0), 1, 2), part(R, (2, 0), 5))
BY_CURRENT = net(2, part(V, (1, 0), 4), part(R, (1, 0), 2), part(H, (2, 0, 1), 3), part(R, (2, 0), 4))
CURRENT_BY_CURRENT = net(2, part(V, (1, 0), 4), part(R, (1, 0), 2), part(F, (2, 0, 1), 3), part(R, (2, 0), 4))
TRANSFORMER = net(2, part(V, (1, 0), 6), part(T, (1, 0, 2, 0), 3), part(R, (2, 0), 4))
AMPLIFIER = net(
    3, part(V, (1, 0), 1), part(R, (1, 2), 1), part(R, (2, 3), 3), part(O, (3, 0, 0, 2)), part(R, (3, 0), 2),
)
LAMP = net(2, part(V, (1, 0), 5), part(R, (1, 2), 10), part(D, (2, 0), 7, 10), part(D, (0, 2), 1))
RESTING = net(
    5, part(V, (1, 0), 5), part(R, (1, 2), 2), part(L, (2, 3), 9), part(L, (3, 4), 4), part(M, (2, 3), 6),
    part(C, (1, 3), 8), part(S, (4, 5), 1), part(S, (1, 5), 0), part(R, (5, 0), 3),
)


def with_number(row, e, number):
    copy = list(row)
    copy[6 + 7 * e:8 + 7 * e] = Fraction(number).as_integer_ratio()
    return copy


def quantities(row):
    """Each quantity that has slopes, as what and k."""
    parts = [k for k in range(judge(row)[2]) if row[1 + 7 * k] != M]
    return [(NODE, node) for node in range(row[0] + 1)] + [(what, k) for what in (CURRENT, VOLTAGE) for k in parts]


class SlopeCase(unittest.TestCase):
    def assert_slope(self, row, what, k, e, top, bottom=1):
        self.assertEqual(judge(row)[0], 0)
        with self.subTest(what=what, k=k, e=e):
            self.assertEqual(slope(what, k, e, row), [0, top, bottom])


class EachKind(SlopeCase):
    def test_a_resistor(self):
        self.assert_slope(DIVIDER, NODE, 2, 1, -3, 4)
        self.assert_slope(DIVIDER, NODE, 2, 2, 9, 4)
        self.assert_slope(DIVIDER, CURRENT, 2, 1, -3, 4)
        self.assert_slope(DIVIDER, CURRENT, 0, 1, 3, 4)
        self.assert_slope(DIVIDER, VOLTAGE, 2, 1, -3, 4)
        self.assert_slope(DIVIDER, VOLTAGE, 0, 1, 0)

    def test_a_voltage_source(self):
        self.assert_slope(DIVIDER, NODE, 1, 0, 1)
        self.assert_slope(DIVIDER, NODE, 2, 0, 1, 4)
        self.assert_slope(DIVIDER, CURRENT, 1, 0, 1, 4)
        self.assert_slope(DIVIDER, VOLTAGE, 1, 0, 3, 4)

    def test_a_current_source(self):
        row = net(1, part(I, (0, 1), 2, 3), part(R, (1, 0), 6))
        self.assert_slope(row, NODE, 1, 0, 6)
        self.assert_slope(row, NODE, 1, 1, 2, 3)
        self.assert_slope(row, CURRENT, 1, 0, 1)
        self.assert_slope(row, CURRENT, 1, 1, 0)
        self.assert_slope(row, VOLTAGE, 0, 1, -2, 3)

    def test_a_voltage_by_a_voltage(self):
        self.assert_slope(BY_VOLTAGE, NODE, 2, 1, 4)
        self.assert_slope(BY_VOLTAGE, NODE, 2, 0, -3, 2)
        self.assert_slope(BY_VOLTAGE, CURRENT, 2, 1, 4, 5)
        self.assert_slope(BY_VOLTAGE, VOLTAGE, 2, 1, 4)

    def test_a_current_by_a_voltage(self):
        self.assert_slope(CURRENT_BY_VOLTAGE, NODE, 2, 1, -20)
        self.assert_slope(CURRENT_BY_VOLTAGE, NODE, 2, 2, -2)
        self.assert_slope(CURRENT_BY_VOLTAGE, NODE, 2, 0, -5, 2)
        self.assert_slope(CURRENT_BY_VOLTAGE, CURRENT, 2, 1, -4)
        self.assert_slope(CURRENT_BY_VOLTAGE, VOLTAGE, 2, 1, -20)

    def test_a_voltage_by_a_current(self):
        self.assert_slope(BY_CURRENT, NODE, 2, 2, 2)
        self.assert_slope(BY_CURRENT, NODE, 2, 1, -3)
        self.assert_slope(BY_CURRENT, NODE, 2, 0, 3, 2)
        self.assert_slope(BY_CURRENT, CURRENT, 3, 2, 1, 2)
        self.assert_slope(BY_CURRENT, VOLTAGE, 3, 2, 2)

    def test_a_current_by_a_current(self):
        self.assert_slope(CURRENT_BY_CURRENT, NODE, 2, 2, -8)
        self.assert_slope(CURRENT_BY_CURRENT, NODE, 2, 3, -6)
        self.assert_slope(CURRENT_BY_CURRENT, NODE, 2, 1, 12)
        self.assert_slope(CURRENT_BY_CURRENT, CURRENT, 3, 2, -2)
        self.assert_slope(CURRENT_BY_CURRENT, VOLTAGE, 3, 2, -8)

    def test_a_transformer_by_both_its_laws(self):
        self.assert_slope(TRANSFORMER, NODE, 2, 1, -2, 3)
        self.assert_slope(TRANSFORMER, CURRENT, 0, 1, 1, 9)
        self.assert_slope(TRANSFORMER, CURRENT, 2, 1, -1, 6)
        self.assert_slope(TRANSFORMER, VOLTAGE, 2, 1, -2, 3)
        self.assert_slope(TRANSFORMER, CURRENT, 1, 2, -1, 24)

    def test_a_diode_that_is_on(self):
        self.assertEqual(point(LAMP), [0, 1, 0])
        self.assert_slope(LAMP, NODE, 2, 2, 1)
        self.assert_slope(LAMP, CURRENT, 1, 2, -1, 10)
        self.assert_slope(LAMP, VOLTAGE, 1, 2, -1)
        self.assert_slope(LAMP, CURRENT, 2, 1, -43, 1000)
        self.assert_slope(LAMP, VOLTAGE, 3, 2, -1)

    def test_around_an_amplifier(self):
        self.assert_slope(AMPLIFIER, NODE, 3, 0, -3)
        self.assert_slope(AMPLIFIER, NODE, 3, 1, 3)
        self.assert_slope(AMPLIFIER, NODE, 3, 2, -1)
        self.assert_slope(AMPLIFIER, CURRENT, 3, 4, -3, 4)
        self.assert_slope(AMPLIFIER, VOLTAGE, 3, 2, -1)


class TheVeryElement(SlopeCase):
    def test_its_own_current_and_voltage(self):
        for row, k, current, voltage in (
            (DIVIDER, 0, Fraction(-1, 4), 1), (DIVIDER, 1, Fraction(-3, 4), Fraction(3, 4)),
            (net(1, part(I, (0, 1), 2, 3), part(R, (1, 0), 6)), 0, 1, -6),
            (net(1, part(I, (0, 1), 2, 3), part(R, (1, 0), 6)), 1, 0, Fraction(2, 3)),
            (BY_VOLTAGE, 1, Fraction(-4, 5), 4), (CURRENT_BY_VOLTAGE, 1, 4, -20),
            (BY_CURRENT, 2, Fraction(-1, 2), 2), (CURRENT_BY_CURRENT, 2, 2, -8),
            (TRANSFORMER, 1, Fraction(-1, 9), 0), (LAMP, 2, Fraction(-1, 10), 1),
        ):
            self.assert_slope(row, CURRENT, k, k, *Fraction(current).as_integer_ratio())
            self.assert_slope(row, VOLTAGE, k, k, *Fraction(voltage).as_integer_ratio())

    def test_a_source_that_follows_its_own_effect(self):
        # v1 = q (v1 less 1): v1 is q over (q less 1).
        row = net(2, part(V, (2, 0), 1), part(E, (1, 0, 1, 2), 3), part(R, (1, 0)))
        self.assertEqual(at(NODE, 1, row), [0, 3, 2])
        self.assert_slope(row, NODE, 1, 1, -1, 4)
        self.assert_slope(row, VOLTAGE, 1, 1, -1, 4)


class Zero(SlopeCase):
    def test_the_ground(self):
        for row in (DIVIDER, BY_VOLTAGE, TRANSFORMER, LAMP, RESTING):
            for e in range(judge(row)[2]):
                self.assert_slope(row, NODE, 0, e, 0)

    def test_by_what_does_nothing_at_rest(self):
        for what, k in quantities(RESTING):
            for e in (2, 3, 4, 5, 6, 7):
                self.assert_slope(RESTING, what, k, e, 0)
        self.assert_slope(RESTING, CURRENT, 3, 1, -1, 5)

    def test_by_an_amplifiers_number(self):
        for what, k in quantities(AMPLIFIER):
            self.assert_slope(AMPLIFIER, what, k, 3, 0)

    def test_by_a_diodes_number_that_is_off(self):
        for what, k in quantities(LAMP):
            self.assert_slope(LAMP, what, k, 3, 0)

    def test_by_a_diodes_number_that_its_voltage_is_just_at(self):
        row = net(2, part(V, (1, 0), 5), part(R, (1, 2), 10), part(D, (2, 0), 5))
        self.assertEqual(point(row), [0, 0])
        for what, k in quantities(row):
            self.assert_slope(row, what, k, 2, 0)

    def test_states_stay_as_they_are_though_its_current_is_0(self):
        row = net(2, part(V, (1, 0), 5), part(D, (1, 2), 0), part(C, (2, 0)))
        self.assertEqual(point(row), [0, 1])
        self.assert_slope(row, NODE, 2, 1, -1)
        self.assert_slope(row, VOLTAGE, 1, 1, 1)
        self.assert_slope(row, CURRENT, 1, 1, 0)


class NearTheNumber(unittest.TestCase):
    """What is left of a change beyond the slope goes with the square of what changed."""

    def check(self, row, e, number, what, k):
        straight = Fraction(*slope(what, k, e, row)[1:])
        now = Fraction(*at(what, k, row)[1:])
        for size in (100, 1000, 10000):
            for x in (Fraction(1, size), Fraction(-1, size)):
                then = Fraction(*at(what, k, with_number(row, e, number + x))[1:])
                with self.subTest(row=row, e=e, what=what, k=k, x=x):
                    self.assertLessEqual(abs(then - now - straight * x), 30 * x * x)

    def test_each_quantity_by_each_number(self):
        together = net(
            5, part(V, (1, 0), 7, 2), part(R, (1, 2), 3), part(T, (2, 0, 3, 0), -2), part(R, (3, 4), 5),
            part(D, (0, 4), 1, 2), part(E, (5, 3, 2, 0), 3, 2), part(R, (5, 0), 4), part(G, (4, 0, 5, 0), 1, 9),
            part(F, (3, 0, 1), 1, 3), part(I, (4, 0), 1, 5),
        )
        self.assertEqual(point(together), [0, 1])
        rows = (
            DIVIDER, BY_VOLTAGE, CURRENT_BY_VOLTAGE, BY_CURRENT, CURRENT_BY_CURRENT, TRANSFORMER, AMPLIFIER, LAMP,
            together,
        )
        for row in rows:
            for e in range(judge(row)[2]):
                number = Fraction(*row[6 + 7 * e:8 + 7 * e])
                if row[1 + 7 * e] != O:
                    for what, k in quantities(row):
                        self.check(row, e, number, what, k)


class Numbers(SlopeCase):
    def test_numbers_that_are_not_in_lowest_terms(self):
        row = net(2, part(V, (1, 0), 24, 2), part(R, (1, 2), 999999, 333333), part(R, (2, 0), 1000000, 1000000))
        for what, k in quantities(row):
            for e in range(3):
                self.assertEqual(slope(what, k, e, row), slope(what, k, e, DIVIDER))

    def test_large_numerators_and_denominators(self):
        v, r, q = Fraction(-999983, 999979), Fraction(1000000, 999961), Fraction(999953, 1000000)
        row = net(
            2, part(V, (1, 0), -999983, 999979), part(R, (1, 2), 1000000, 999961), part(R, (2, 0), 999953, 1000000),
        )
        for e, expected in enumerate((q / (r + q), -v * q / (r + q) ** 2, v * r / (r + q) ** 2)):
            self.assert_slope(row, NODE, 2, e, *expected.as_integer_ratio())

    def test_fourteen_elements(self):
        chain = [part(T, (k, 0, k + 1, 0), 999983, 999979) for k in range(1, 8)]
        row = net(8, part(V, (1, 0), 5), *chain, part(R, (8, 0), 3), *[part(R, (8, 0), 15)] * 5)
        voltage = 5 * Fraction(999979, 999983) ** 7
        for e in range(1, 8):
            self.assert_slope(row, NODE, 8, e, *(-voltage * Fraction(999979, 999983)).as_integer_ratio())
        self.assert_slope(row, NODE, 8, 13, 0)
        self.assert_slope(row, CURRENT, 13, 13, *(-voltage / 225).as_integer_ratio())


class NoSuchSlope(unittest.TestCase):
    def test_whats(self):
        self.assertEqual(slope(2, 1, 0, DIVIDER), [0, 3, 4])
        for what in (3, 4, 63, MOST):
            for k, e in ((0, 0), (1, 2), (3, 0), (0, 3), (MOST, MOST)):
                self.assertEqual(slope(what, k, e, DIVIDER), [-3])

    def test_nodes(self):
        self.assertEqual(slope(NODE, 2, 0, DIVIDER), [0, 1, 4])
        for node in (3, 9, 63, MOST):
            self.assertEqual(slope(NODE, node, 0, DIVIDER), [-3])

    def test_elements(self):
        for what in (CURRENT, VOLTAGE):
            self.assertEqual(slope(what, 2, 0, DIVIDER), [0, 1, 4])
            for k in (3, 4, 63, MOST):
                self.assertEqual(slope(what, k, 0, DIVIDER), [-3])

    def test_no_element_whose_number_it_is(self):
        for what, k in quantities(DIVIDER):
            self.assertEqual(slope(what, k, 2, DIVIDER)[0], 0)
            for e in (3, 4, 63, MOST):
                self.assertEqual(slope(what, k, e, DIVIDER), [-3])

    def test_a_mutual_inductance(self):
        for what in (CURRENT, VOLTAGE):
            for e in (0, 4):
                self.assertEqual(slope(what, 4, e, RESTING), [-3])
        self.assertEqual(slope(NODE, 4, 0, RESTING), [0, 3, 5])
        self.assertEqual(slope(NODE, 4, 4, RESTING), [0, 0, 1])

    def test_ahead_of_no_operating_point(self):
        for what, k, e in ((3, 0, 0), (NODE, 2, 0), (CURRENT, 2, 0), (VOLTAGE, 2, 0), (NODE, 0, 2), (MOST, MOST, MOST)):
            self.assertEqual(slope(what, k, e, FIGHT), [-3])
        self.assertEqual(slope(NODE, 0, 0, [1]), [-3])
        row = net(2, part(L, (1, 0)), part(L, (1, 0)), part(M, (0, 1)))
        self.assertEqual(slope(CURRENT, 2, 0, row), [-3])
        self.assertEqual(slope(CURRENT, 0, 2, row), [-4])


class NoOperatingPoint(unittest.TestCase):
    def test_each_quantity(self):
        for what, k, e in ((NODE, 0, 0), (NODE, 1, 1), (CURRENT, 0, 1), (VOLTAGE, 1, 0)):
            self.assertEqual(slope(what, k, e, FIGHT), [-4])

    def test_where_the_slope_would_be_0(self):
        row = net(2, part(V, (1, 0), 5), part(R, (1, 0), 2), part(C, (1, 2)))
        self.assertEqual(slope(NODE, 0, 2, row), [-4])

    def test_the_diodes_conditions_hold_for_no_row(self):
        row = net(1, part(V, (1, 0), 5), part(D, (1, 0), 1))
        self.assertEqual(slope(NODE, 1, 0, row), [-4])
        self.assertEqual(slope(CURRENT, 1, 1, row), [-4])


if __name__ == "__main__":
    unittest.main()
