"""The laws at s = 0 for a row of states, each a form that has to be 0."""

from restingnets.columns import less, times
from restingnets.kinds import AMPLIFIER, CURRENT_BY_CURRENT, CURRENT_BY_VOLTAGE, CURRENT_COUNTS, CURRENT_SOURCE
from restingnets.kinds import DIODE, INDUCTOR, RESISTOR, SWITCH, TRANSFORMER
from restingnets.kinds import VOLTAGE_BY_CURRENT, VOLTAGE_BY_VOLTAGE, VOLTAGE_SOURCE


class Law:
    """An element's law: told is factor multiplied by the element's number, which is top over bottom."""

    def __init__(self, told, factor, part):
        self.told = told
        self.factor = factor
        self.top = part.top
        self.bottom = part.bottom

    def form(self):
        # Multiplied by the denominator, so that all numbers are whole.
        return less(times(self.bottom, self.told), times(self.top, self.factor))

    def form_slope(self):
        """How form goes with the element's number; the denominator stays what it is."""
        return times(-self.bottom, self.factor)


def sets_voltage(part, state):
    """Whether the law tells the element's voltage, else its current."""
    if part.kind == SWITCH:
        return part.top != 0
    if part.kind == DIODE:
        return state == 1
    # At s = 0 an inductor's voltage is 0, whatever is coupled with it, and a capacitor's current is 0.
    return part.kind in (RESISTOR, INDUCTOR, VOLTAGE_SOURCE, VOLTAGE_BY_VOLTAGE, VOLTAGE_BY_CURRENT, TRANSFORMER)


def told_form(parts, k, state, columns):
    part = parts[k]
    if part.kind == AMPLIFIER:
        return columns.between(part.places[2], part.places[3])
    if sets_voltage(part, state):
        return columns.between(part.places[0], part.places[1])
    return columns.single(columns.currents[k])


def factor_form(parts, k, state, columns):
    """What the element's number is multiplied by; nothing, where its law is without a number."""
    part = parts[k]
    if part.kind == RESISTOR:
        return columns.single(columns.currents[k])
    if part.kind in (VOLTAGE_SOURCE, CURRENT_SOURCE) or (part.kind == DIODE and state == 1):
        return columns.single(columns.one)
    if part.kind in (VOLTAGE_BY_VOLTAGE, CURRENT_BY_VOLTAGE, TRANSFORMER):
        return columns.between(part.places[2], part.places[3])
    if part.kind in (VOLTAGE_BY_CURRENT, CURRENT_BY_CURRENT):
        return columns.single(columns.currents[part.places[2]])
    return columns.nothing()


def part_laws(parts, k, state, columns):
    """The laws of element k: one for each of its currents."""
    part = parts[k]
    if CURRENT_COUNTS[part.kind] == 0:
        return []
    laws = [Law(told_form(parts, k, state, columns), factor_form(parts, k, state, columns), part)]
    if part.kind == TRANSFORMER:
        current = columns.single(columns.currents[k])
        laws.append(Law(columns.single(columns.currents[k] + 1), times(-1, current), part))
    return laws


def all_part_laws(parts, states, columns):
    laws = []
    for k, state in enumerate(states):
        laws.extend(part_laws(parts, k, state, columns))
    return laws


def branches_of(parts, columns):
    """For each current the node that it leaves, the node that it enters, and its column."""
    branches = []
    for part, column in zip(parts, columns.currents):
        if CURRENT_COUNTS[part.kind] > 0:
            branches.append((part.places[0], part.places[1], column))
        if part.kind == TRANSFORMER:
            branches.append((part.places[2], part.places[3], column + 1))
    return branches


def node_forms(parts, columns):
    """For each node but the ground the currents out of it."""
    forms = [columns.nothing() for node in range(columns.nodes)]
    for left, entered, column in branches_of(parts, columns):
        forms[left][column] += 1
        forms[entered][column] -= 1
    return forms[1:]


def law_forms(parts, states, columns):
    """All laws: those of the nodes from 1 on, then those of the elements in their order."""
    return node_forms(parts, columns) + [law.form() for law in all_part_laws(parts, states, columns)]
