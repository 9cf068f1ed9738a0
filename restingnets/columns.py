"""Forms: sums of numbers times the unknowns, each a list with one number for each column.

Column n is node n's voltage, the ground's included; then come the currents in the elements' order; the last
column is the number 1, so that what a source sets stands in a form like everything else.
"""

from restingnets.kinds import CURRENT_COUNTS


class Columns:
    """Which column each current and the number 1 have."""

    def __init__(self, parts, last_node):
        self.nodes = last_node + 1
        self.currents = []
        column = self.nodes
        for part in parts:
            self.currents.append(column)
            column += CURRENT_COUNTS[part.kind]
        self.one = column

    def nothing(self):
        return [0] * (self.one + 1)

    def single(self, column):
        """The form that is just this column."""
        form = self.nothing()
        form[column] = 1
        return form

    def between(self, first, second):
        """The form of the first column less the second, which may be the same."""
        form = self.nothing()
        form[first] += 1
        form[second] -= 1
        return form


def times(factor, form):
    return [factor * number for number in form]


def less(first, second):
    return [x - y for x, y in zip(first, second)]


def product(first, second):
    """The sum of the two lists' numbers, multiplied one by one."""
    return sum([x * y for x, y in zip(first, second)])
