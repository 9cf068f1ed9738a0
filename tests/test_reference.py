"""The answers for many networks, held against another way to reckon them.

Here the laws are written out as the document tells them, s and all, over named unknowns and Python's fractions.
"""

import itertools
import random
import unittest
from fractions import Fraction

from netrows import C, D, E, F, G, H, I, KINDS, L, M, O, R, S, T, V
from netrows import net, part
from restingnets.nets import at, judge, opened, point, rank, slope


class Reference:
    def __init__(self, row):
        self.last_node = row[0]
        self.parts = [row[k:k + 7] for k in range(1, len(row), 7)]
        self.numbers = [Fraction(numbers[5], numbers[6]) for numbers in self.parts]
        self.diodes = [k for k, numbers in enumerate(self.parts) if numbers[0] == D]
        self.unknowns = [("node", node) for node in range(1, self.last_node + 1)]
        self.unknowns += [("i", k) for k, numbers in enumerate(self.parts) if numbers[0] != M]
        self.unknowns += [("j", k) for k, numbers in enumerate(self.parts) if numbers[0] == T]

    def voltage(self, plus, minus):
        """The voltage between two nodes as a sum of numbers times unknowns."""
        terms = {}
        for node, sign in ((plus, 1), (minus, -1)):
            if node:
                terms[("node", node)] = terms.get(("node", node), 0) + sign
        return terms

    def part_laws(self, k, on, s):
        """Each law is what stands on its left, what on its right, both in unknowns, and a number more on the right."""
        kind, a, b, c, d, top, bottom = self.parts[k]
        q = self.numbers[k]
        v, i = self.voltage(a, b), {("i", k): 1}

        def times(factor, terms):
            return {name: factor * number for name, number in terms.items()}

        if kind == M:
            return []
        if kind == R:
            return [(v, times(q, i), 0)]
        if kind == C:
            return [(i, times(q * s, v), 0)]
        if kind == L:
            coupled = {("i", k): s * q}
            for other, numbers in enumerate(self.parts):
                if numbers[0] == M and k in numbers[1:3]:
                    coupled[("i", sum(numbers[1:3]) - k)] = s * self.numbers[other]
            return [(v, coupled, 0)]
        if kind in (V, I):
            return [(v if kind == V else i, {}, q)]
        if kind in (E, G):
            return [(v if kind == E else i, times(q, self.voltage(c, d)), 0)]
        if kind in (H, F):
            return [(v if kind == H else i, {("i", c): q}, 0)]
        if kind == T:
            return [(v, times(q, self.voltage(c, d)), 0), ({("j", k): 1}, {("i", k): -q}, 0)]
        if kind == O:
            return [(self.voltage(c, 0), self.voltage(d, 0), 0)]
        if kind == S:
            return [(v if top else i, {}, 0)]
        return [(v, {}, q) if on else (i, {}, 0)]

    def laws(self, states, s=0, more=()):
        """All laws: terms and the number that they come to. More currents of 1 are told as (from, to)."""
        laws = []
        for node in range(1, self.last_node + 1):
            terms = {}
            for k, (kind, a, b, c, d, top, bottom) in enumerate(self.parts):
                pairs = [] if kind == M else [("i", a, b), ("j", c, d)] if kind == T else [("i", a, b)]
                for name, start, end in pairs:
                    terms[(name, k)] = (start == node) - (end == node)
            laws.append((terms, sum((end == node) - (start == node) for start, end in more)))
        for k in range(len(self.parts)):
            for left, right, number in self.part_laws(k, states.get(k), s):
                terms = dict(left)
                for name, factor in right.items():
                    terms[name] = terms.get(name, 0) - factor
                laws.append((terms, number))
        return laws

    def reduced(self, laws):
        """The laws left after each unknown that can be told by others was put in; and those that told them."""
        left = [({name: x for name, x in terms.items() if x}, number) for terms, number in laws]
        told = []
        for name in self.unknowns:
            law = next((law for law in left if name in law[0]), None)
            if law is None:
                continue
            left.remove(law)
            told.append((name, law))
            left = [self.without(name, law, other) for other in left]
        return left, told

    def without(self, name, law, other):
        if name not in other[0]:
            return other
        factor = other[0][name] / Fraction(law[0][name])
        terms = dict(other[0])
        for key, x in law[0].items():
            terms[key] = terms.get(key, 0) - factor * x
        return {key: x for key, x in terms.items() if x and key != name}, other[1] - factor * law[1]

    def solved(self, laws):
        """The only solution, or None."""
        left, told = self.reduced(laws)
        if len(told) < len(self.unknowns):
            return None
        solution = {("node", 0): Fraction(0)}
        for name, (terms, number) in reversed(told):
            rest = number - sum(x * solution[key] for key, x in terms.items() if key != name)
            solution[name] = rest / Fraction(terms[name])
        return solution

    def holds(self, states, solution):
        for k, on in states.items():
            a, b = self.parts[k][1:3]
            if on and solution[("i", k)] < 0:
                return False
            if not on and solution[("node", a)] - solution[("node", b)] > self.numbers[k]:
                return False
        return True

    def quantity(self, what, k, solution):
        if what == 0:
            return solution[("node", k)]
        a, b = self.parts[k][1:3]
        voltage, current = solution[("node", a)] - solution[("node", b)], solution[("i", k)]
        return (current, voltage, current * voltage)[what - 1]

    def askable(self):
        """Each quantity that there is, as what and k."""
        parts = [k for k, numbers in enumerate(self.parts) if numbers[0] != M]
        return [(0, node) for node in range(self.last_node + 1)] + list(itertools.product((1, 2, 3), parts))

    def changed(self, e, states, x):
        """The solution with element e's number changed by x, the states being what they are."""
        number = self.numbers[e]
        self.numbers[e] = number + x
        solution = self.solved(self.laws(states))
        self.numbers[e] = number
        return solution

    def resistance(self, a, b, states):
        numbers = self.numbers
        self.numbers = [0 if row[0] in (V, I, D) else number for row, number in zip(self.parts, numbers)]
        solution = self.solved(self.laws(states, more=[(b, a)]))
        self.numbers = numbers
        return solution[("node", a)] - solution[("node", b)]

    def point(self):
        """The states and the solution at the operating point, or None twice."""
        for row in itertools.product((0, 1), repeat=len(self.diodes)):
            states = dict(zip(self.diodes, row))
            solution = self.solved(self.laws(states))
            if solution is not None and self.holds(states, solution):
                return states, solution
        return None, None


def random_number(source, kind):
    if kind == O:
        return 0, 1
    if kind == S:
        return source.choice(((0, 1), (1, 1), (3, 3)))
    top, bottom = source.randint(1, 9), source.randint(1, 4)
    if kind == L:
        return top, 1
    if kind == M:
        return source.choice((-1, 1)), bottom
    if kind == D:
        # Low, so that many are on.
        return source.randint(0, 2), bottom
    if kind in (R, C):
        return top, bottom
    return source.choice((-1, 1)) * top, bottom


def random_part(source, last_node, parts, kind):
    """A part of this kind to stand behind the others, if there is what it refers to, else a resistor."""
    inductors = [k for k, numbers in enumerate(parts) if numbers[0] == L]
    others = [k for k, numbers in enumerate(parts) if numbers[0] != M]
    if (kind == M and len(inductors) < 2) or (kind in (H, F) and not others):
        kind = R
    places = [source.randint(0, last_node) for place in range(4)]
    if places[0] == places[1] and source.random() < 0.8:
        places[0] = (places[0] + 1) % (last_node + 1)
    if kind in (H, F):
        places[2] = source.choice(others)
    if kind == M:
        places[:2] = source.sample(inductors, 2)
    return part(kind, places, *random_number(source, kind))


def random_net(source):
    """A network with which nothing is wrong, with a resistor from each node so that many are regular."""
    last_node = source.choice((1, 2, 3, 4, 5, 6))
    kinds = [*KINDS, I, I, I, V, D, D, D, D]
    wanted = [source.choice(kinds) for turn in range(source.randint(0, 14 - last_node))]
    wanted += range(-last_node, 0)
    source.shuffle(wanted)
    if last_node == 6:
        wanted = [L, L, M, *wanted[:8]]
    parts = []
    for kind in wanted:
        if kind < 0:
            numbers = part(R, (-kind, source.randint(0, last_node)), source.randint(1, 9))
        else:
            numbers = random_part(source, last_node, parts, kind)
        if judge(net(last_node, *parts, numbers))[0] == 0:
            parts.append(numbers)
    return net(last_node, *parts)


def networks(seed, count):
    source = random.Random(seed)
    return [random_net(source) for turn in range(count)]


NETWORKS = networks(20261116, 600)


def told(answer):
    """The fraction of an answer, which has to be in lowest terms."""
    assert answer[0] == 0 and len(answer) == 3 and answer[2] > 0
    fraction = Fraction(answer[1], answer[2])
    assert fraction.as_integer_ratio() == (answer[1], answer[2])
    return fraction


class AgainstTheReference(unittest.TestCase):
    @classmethod
    def setUpClass(cls):
        cls.cases = []
        for row in NETWORKS:
            reference = Reference(row)
            cls.cases.append((row, reference, *reference.point()))

    def test_there_are_enough_of_each_sort(self):
        found = [row for row, reference, states, solution in self.cases if states is not None]
        self.assertGreater(len(found), 150)
        self.assertGreater(len(self.cases) - len(found), 100)
        for kind in KINDS:
            self.assertGreater(len([row for row in found if kind in row[1::7]]), 10, kind)
        for count in range(1, 4):
            with_diodes = [states for row, reference, states, solution in self.cases if states and len(states) == count]
            self.assertGreater(len([states for states in with_diodes if any(states.values())]), 5, count)

    def test_the_unknowns_are_as_many_as_the_laws(self):
        for row, reference, states, solution in self.cases:
            self.assertEqual(judge(row)[4], len(reference.unknowns))
            self.assertEqual(judge(row)[4], len(reference.laws({})))

    def test_point(self):
        for row, reference, states, solution in self.cases:
            expected = [-4] if states is None else [0, *states.values()]
            with self.subTest(row=row):
                self.assertEqual(point(row), expected)

    def test_at(self):
        for row, reference, states, solution in self.cases:
            if states is None:
                self.assertEqual(at(*reference.askable()[-1], row), [-4])
                continue
            for what, k in reference.askable():
                with self.subTest(row=row, what=what, k=k):
                    self.assertEqual(told(at(what, k, row)), reference.quantity(what, k, solution))

    def test_all_powers_come_to_0_together(self):
        for row, reference, states, solution in self.cases:
            if states is None:
                continue
            powers = Fraction(0)
            for k, (kind, a, b, c, d, top, bottom) in enumerate(reference.parts):
                if kind != M:
                    powers += told(at(3, k, row))
                if kind == T:
                    second_current = -reference.numbers[k] * told(at(1, k, row))
                    powers += (told(at(0, c, row)) - told(at(0, d, row))) * second_current
            with self.subTest(row=row):
                self.assertEqual(powers, 0)

    def test_slope(self):
        # So near that what goes with the square of x is nothing beside the least a wrong slope would be off.
        near = Fraction(1, 10 ** 80)
        for turn, (row, reference, states, solution) in enumerate(self.cases):
            if states is None:
                self.assertEqual(slope(0, 0, 0, row), [-4])
                continue
            for e in range(turn % 3, len(reference.parts), 3):
                then = [(x, reference.changed(e, states, x)) for x in (near, -near)]
                for what, k in reference.askable()[(turn + e) % 5::5]:
                    if what < 3:
                        now = reference.quantity(what, k, solution)
                        straight = told(slope(what, k, e, row))
                        for x, other in then:
                            left = reference.quantity(what, k, other) - now - straight * x
                            with self.subTest(row=row, what=what, k=k, e=e):
                                self.assertLess(abs(left), near / 10 ** 40)

    def test_opened(self):
        for turn, (row, reference, states, solution) in enumerate(self.cases):
            for a, b in list(itertools.product(range(row[0] + 1), repeat=2))[turn % 4::4]:
                answer = opened(a, b, row)
                if states is None:
                    self.assertEqual(answer, [-4])
                    break
                with self.subTest(row=row, a=a, b=b):
                    self.assertEqual(told(answer[:3]), solution[("node", a)] - solution[("node", b)])
                    self.assertEqual(told([0, *answer[3:]]), reference.resistance(a, b, states))

    def test_a_resistor_more_has_the_voltage_that_opened_says(self):
        checked = 0
        for turn, (row, reference, states, solution) in enumerate(self.cases):
            if states is None or len(reference.parts) == 14:
                continue
            a, b = turn % (row[0] + 1), turn // 7 % (row[0] + 1)
            number = Fraction(turn % 5 + 1, turn % 3 + 1)
            answer = opened(a, b, row)
            voltage, resistance = told(answer[:3]), told([0, *answer[3:]])
            longer = row + part(R, (a, b), *number.as_integer_ratio())
            # The words hold for the states at the point; with the resistor it may have others.
            if number + resistance == 0 or point(longer) != point(row):
                continue
            checked += 1
            with self.subTest(row=row, a=a, b=b):
                self.assertEqual(
                    told(at(2, len(reference.parts), longer)), voltage * number / (number + resistance),
                )
        self.assertGreater(checked, 100)

    def test_rank(self):
        found = []
        for row, reference, states, solution in self.cases:
            left, told_by_others = reference.reduced(reference.laws(states or {}))
            solvable = 0 if any(number for terms, number in left) else 1
            with self.subTest(row=row):
                self.assertEqual(rank(row), [0, len(reference.unknowns), len(told_by_others), solvable])
            found.append((len(told_by_others) == len(reference.unknowns), solvable))
        for sort in ((True, 1), (False, 0), (False, 1)):
            self.assertGreater(found.count(sort), 50, sort)


if __name__ == "__main__":
    unittest.main()
