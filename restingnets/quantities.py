"""The quantities of nodes and elements."""

from restingnets.kinds import MUTUAL
from restingnets.ratios import lowest

NODE_VOLTAGE = 0
CURRENT = 1
VOLTAGE = 2
POWER = 3


def has_quantity(what, k, parts, last_node):
    """Whether there is this quantity of node or element k."""
    if what == NODE_VOLTAGE:
        return k <= last_node
    return what <= POWER and k < len(parts) and parts[k].kind != MUTUAL


def quantity_form(what, k, parts, columns):
    """The form of a quantity but the power, which is none."""
    if what == NODE_VOLTAGE:
        return columns.single(k)
    if what == CURRENT:
        return columns.single(columns.currents[k])
    return columns.between(parts[k].places[0], parts[k].places[1])


def quantity(what, k, parts, columns, solution):
    """The quantity as a fraction."""
    if what != POWER:
        return lowest(solution.top_of(quantity_form(what, k, parts, columns)), solution.bottom)
    current = solution.top_of(quantity_form(CURRENT, k, parts, columns))
    voltage = solution.top_of(quantity_form(VOLTAGE, k, parts, columns))
    return lowest(current * voltage, solution.bottom * solution.bottom)
