"""Fractions as they are told."""


def common_divisor(first, second):
    """The greatest number that goes into both, by Euclid's way; second is above 0."""
    while second != 0:
        rest = first % second
        first = second
        second = rest
    # Every rest has the sign of what it was divided by, so this is above 0 like the second.
    return first


def lowest(top, bottom):
    """The fraction in lowest terms as a list of two numbers; bottom is above 0."""
    divisor = common_divisor(top, bottom)
    return [top // divisor, bottom // divisor]
