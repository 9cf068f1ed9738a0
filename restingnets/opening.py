"""What a network looks like from two of its nodes: the open voltage and the resistance."""

from restingnets.laws import all_part_laws, node_forms
from restingnets.ratios import lowest
from restingnets.solutions import solution_of


def current_put(node, a, b):
    """What a current of 1 put from b to a takes out of a node."""
    taken = 1 if node == b else 0
    given = 1 if node == a else 0
    return taken - given


def probe_forms(a, b, parts, states, columns):
    """The laws with all sources' and diodes' numbers 0 and a current of 1 put from b to a."""
    forms = [
        form[:-1] + [current_put(node, a, b)] for node, form in enumerate(node_forms(parts, columns), start=1)
    ]
    # Just those numbers stand in the column of 1.
    forms.extend([law.form()[:-1] + [0] for law in all_part_laws(parts, states, columns)])
    return forms


def voltage_between(a, b, columns, solution):
    return lowest(solution.top_of(columns.between(a, b)), solution.bottom)


def open_voltage(a, b, columns, found):
    return voltage_between(a, b, columns, found.solution)


def resistance(a, b, parts, columns, found):
    # Regular like the laws at the point, which have the same numbers times the unknowns.
    return voltage_between(a, b, columns, solution_of(probe_forms(a, b, parts, found.states, columns), columns))
