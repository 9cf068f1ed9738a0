"""The calls: each takes a network's row and gives back a list of whole numbers."""

from restingnets.columns import Columns
from restingnets.faults import first_fault
from restingnets.opening import open_voltage, resistance
from restingnets.points import diode_places, operating_point
from restingnets.quantities import has_quantity, quantity
from restingnets.ranks import rank_and_solvable
from restingnets.rows import current_count, diode_count, is_row, parts_of
from restingnets.slopes import has_slope, slope_by

ANSWERED = 0
NO_ROW = -1
WRONG_NETWORK = -2
NO_SUCH = -3
NO_POINT = -4


def refusal_of(net):
    """The refusal that every call gives for this row, or an empty list."""
    if not is_row(net):
        return [NO_ROW]
    fault = first_fault(parts_of(net), net[0])
    if fault:
        return [WRONG_NETWORK] + fault
    return []


def unknown_count(last_node, parts):
    """How many voltages and currents the laws are to tell."""
    return last_node + current_count(parts)


def judge(net):
    """Answers N, how many elements, how many diodes and how many unknowns there are."""
    refusal = refusal_of(net)
    if refusal:
        return refusal
    parts = parts_of(net)
    return [ANSWERED, net[0], len(parts), diode_count(parts), unknown_count(net[0], parts)]


def point(net):
    """Answers for each diode 1 if it is on at the operating point, 0 if it is off."""
    refusal = refusal_of(net)
    if refusal:
        return refusal
    parts = parts_of(net)
    found = operating_point(parts, Columns(parts, net[0]))
    if found is None:
        return [NO_POINT]
    return [ANSWERED] + [found.states[k] for k in diode_places(parts)]


def at(what, k, net):
    """Answers quantity what of node or element k at the operating point."""
    refusal = refusal_of(net)
    if refusal:
        return refusal
    parts = parts_of(net)
    if not has_quantity(what, k, parts, net[0]):
        return [NO_SUCH]
    columns = Columns(parts, net[0])
    found = operating_point(parts, columns)
    if found is None:
        return [NO_POINT]
    return [ANSWERED] + quantity(what, k, parts, columns, found.solution)


def slope(what, k, e, net):
    """Answers the slope of quantity what of node or element k by element e's number."""
    refusal = refusal_of(net)
    if refusal:
        return refusal
    parts = parts_of(net)
    if not has_slope(what, k, e, parts, net[0]):
        return [NO_SUCH]
    columns = Columns(parts, net[0])
    found = operating_point(parts, columns)
    if found is None:
        return [NO_POINT]
    return [ANSWERED] + slope_by(what, k, e, parts, columns, found)


def opened(a, b, net):
    """Answers the open voltage and the resistance between nodes a and b."""
    refusal = refusal_of(net)
    if refusal:
        return refusal
    if a > net[0] or b > net[0]:
        return [NO_SUCH]
    parts = parts_of(net)
    columns = Columns(parts, net[0])
    found = operating_point(parts, columns)
    if found is None:
        return [NO_POINT]
    return [ANSWERED] + open_voltage(a, b, columns, found) + resistance(a, b, parts, columns, found)


def rank(net):
    """Answers how many unknowns there are, the laws' rank, and 1 if they have a solution, else 0."""
    refusal = refusal_of(net)
    if refusal:
        return refusal
    parts = parts_of(net)
    return [ANSWERED, unknown_count(net[0], parts)] + rank_and_solvable(parts, Columns(parts, net[0]))
