"""How a quantity goes with an element's number, the states staying as they are."""

from restingnets.laws import node_forms, part_laws
from restingnets.quantities import POWER, has_quantity, quantity_form
from restingnets.ratios import lowest
from restingnets.solutions import solution_of


def has_slope(what, k, e, parts, last_node):
    """Whether there is this quantity of k, one that has slopes, and an element e."""
    return what != POWER and has_quantity(what, k, parts, last_node) and e < len(parts)


def slope_forms(e, parts, columns, found):
    """The laws' own slopes, each a form that has to be 0 of the unknowns' slopes.

    All is multiplied by the solution's bottom, so that the numbers are whole.
    """
    forms = [form[:-1] + [0] for form in node_forms(parts, columns)]
    for k, state in enumerate(found.states):
        for law in part_laws(parts, k, state, columns):
            own = found.solution.top_of(law.form_slope()) if k == e else 0
            forms.append(law.form()[:-1] + [own])
    return forms


def slope_by(what, k, e, parts, columns, found):
    """The slope of a quantity by element e's number, as a fraction."""
    # The laws are regular at the point, so these, which have the same numbers times the unknowns, are too.
    slopes = solution_of(slope_forms(e, parts, columns, found), columns)
    top = slopes.top_of(quantity_form(what, k, parts, columns))
    return lowest(top, slopes.bottom * found.solution.bottom)
