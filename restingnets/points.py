"""The operating point: the first row of states for which the laws are regular and the diodes' conditions hold."""

from restingnets.kinds import DIODE
from restingnets.laws import law_forms
from restingnets.solutions import solution_of


class Point:
    """A state for each element, 1 for a diode that is on and else 0, and what the laws then say."""

    def __init__(self, states, solution):
        self.states = states
        self.solution = solution


def state_rows(parts):
    """Every row of states: off before on, the first diode counting most; what is no diode has 0."""
    rows = [[]]
    for part in parts:
        choices = (0, 1) if part.kind == DIODE else (0,)
        longer = []
        for row in rows:
            longer.extend([row + [state] for state in choices])
        rows = longer
    return rows


def diode_places(parts):
    return [k for k, part in enumerate(parts) if part.kind == DIODE]


def condition_holds(parts, k, state, columns, solution):
    """Whether a diode that is on has no current below 0, one that is off no voltage above its number."""
    part = parts[k]
    if state == 1:
        return solution.top_of(columns.single(columns.currents[k])) >= 0
    voltage = solution.top_of(columns.between(part.places[0], part.places[1]))
    return voltage * part.bottom <= part.top * solution.bottom


def conditions_hold(parts, states, columns, solution):
    return all([condition_holds(parts, k, states[k], columns, solution) for k in diode_places(parts)])


def operating_point(parts, columns):
    """The operating point, or None if there is none."""
    for states in state_rows(parts):
        solution = solution_of(law_forms(parts, states, columns), columns)
        if solution is not None and conditions_hold(parts, states, columns, solution):
            return Point(states, solution)
    return None
