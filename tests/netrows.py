"""Rows of networks for the tests."""

R, C, L, M, V, I, E, G, H, F, T, O, S, D = range(14)
KINDS = tuple(range(14))
NAMES = "RCLMVIEGHFTOSD"

# A number that each kind may have.
GOOD_TOPS = (1, 1, 1, 0, 1, 1, 1, 1, 1, 1, 1, 0, 1, 1)

# For each kind the places, of the four behind it, that hold nodes, and those that it does not use.
NODE_PLACES = (
    (0, 1), (0, 1), (0, 1), (), (0, 1), (0, 1), (0, 1, 2, 3), (0, 1, 2, 3),
    (0, 1), (0, 1), (0, 1, 2, 3), (0, 1, 2, 3), (0, 1), (0, 1),
)
UNUSED_PLACES = (
    (2, 3), (2, 3), (2, 3), (2, 3), (2, 3), (2, 3), (), (),
    (3,), (3,), (), (), (2, 3), (2, 3),
)


def part(kind, places=(0, 0), top=None, bottom=1):
    """An element's seven numbers; places that are left out are 0, a number left out is a good one."""
    filled = list(places) + [0] * (4 - len(places))
    return [kind] + filled + [GOOD_TOPS[kind] if top is None else top, bottom]


def net(last_node, *parts):
    row = [last_node]
    for numbers in parts:
        row.extend(numbers)
    return row


def needed(kind):
    """The elements that have to stand before one of this kind."""
    if kind == M:
        return [part(L), part(L)]
    if kind in (H, F):
        return [part(R)]
    return []


def sample(kind, last_node=1, places=None, top=None, bottom=1):
    """A row whose last element is of this kind; without more said nothing is wrong with it."""
    if places is None:
        places = (0, 1) if kind == M else (0, 0)
    return net(last_node, *needed(kind), part(kind, places, top, bottom))


def changed(row, index, number):
    """A copy of the row with another number in one place."""
    copy = list(row)
    copy[index] = number
    return copy


class Unchangeable(list):
    """A list that can't be changed, so that not even a change that is undone goes unseen."""

    def refuse(self, *arguments, **named):
        raise AssertionError("the row was changed")

    append = extend = insert = pop = remove = clear = reverse = sort = refuse
    __setitem__ = __delitem__ = __iadd__ = __imul__ = refuse
