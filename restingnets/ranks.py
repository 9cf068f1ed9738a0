"""How many of the laws are independent of one another, and whether they have a solution."""

from restingnets.laws import law_forms
from restingnets.points import operating_point
from restingnets.solutions import reduced_laws


def states_told(parts, columns):
    """The states at the operating point; if there is none, all off."""
    found = operating_point(parts, columns)
    if found is None:
        return [0 for part in parts]
    return found.states


def rank_and_solvable(parts, columns):
    """The rank of the laws, and 1 if they have a solution, else 0."""
    result = reduced_laws(law_forms(parts, states_told(parts, columns), columns), columns)
    # Behind the pivots' rows no unknown is left: what is, says that a number is 0.
    left = [row[-1] for row in result.rows[result.rank:]]
    return [result.rank, 0 if any([number != 0 for number in left]) else 1]
