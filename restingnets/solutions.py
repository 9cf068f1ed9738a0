"""What the laws say of the unknowns."""

from restingnets.columns import product
from restingnets.reduction import reduced


class Solution:
    """A value for each column: its top over the bottom that all have, which is above 0."""

    def __init__(self, tops, bottom):
        self.tops = tops
        self.bottom = bottom

    def top_of(self, form):
        """The numerator of a form's value; its denominator is bottom."""
        return product(form, self.tops)


def reduced_laws(forms, columns):
    # The ground's column is left out: its voltage is 0 and no unknown.
    return reduced([form[1:] for form in forms], columns.one - 1)


def solution_of(forms, columns):
    """The one solution of the laws, or None if they are not regular."""
    result = reduced_laws(forms, columns)
    if result.rank < columns.one - 1:
        return None
    # A form has to be 0, so an unknown is what stands in the column of 1 with its sign turned.
    sign = -1 if result.divisor > 0 else 1
    bottom = abs(result.divisor)
    return Solution([0] + [sign * row[-1] for row in result.rows] + [bottom], bottom)
