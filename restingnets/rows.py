"""The row that hands a network over: the elements in it, and whether it is such a row at all."""

from restingnets.kinds import CURRENT_BY_CURRENT, CURRENT_COUNTS, DIODE, MUTUAL, NODE_COUNTS, VOLTAGE_BY_CURRENT

MOST_NODES = 8
MOST_PARTS = 14
MOST_DIODES = 5
PART_LENGTH = 7
LAST_KIND = 13
MOST_PLACE = 63
MOST_TOP = 1000000
MOST_BOTTOM = 1000000


class Part:
    """One element: its kind, the four numbers behind that, and its number q as top over bottom."""

    def __init__(self, numbers):
        self.kind = numbers[0]
        self.places = numbers[1:5]
        self.top = numbers[5]
        self.bottom = numbers[6]


def parts_of(net):
    """The elements of a row that comes out in sevens behind its first number."""
    return [Part(net[start:start + PART_LENGTH]) for start in range(1, len(net), PART_LENGTH)]


def nodes_of(part):
    """The nodes that an element lies between, those of the second pair included."""
    return part.places[:NODE_COUNTS[part.kind]]


def references_of(part):
    """The numbers of the elements that an element refers to."""
    if part.kind == MUTUAL:
        return part.places[:2]
    if part.kind in (VOLTAGE_BY_CURRENT, CURRENT_BY_CURRENT):
        return part.places[2:3]
    return []


def diode_count(parts):
    return len([part for part in parts if part.kind == DIODE])


def current_count(parts):
    return sum([CURRENT_COUNTS[part.kind] for part in parts])


def is_part(part):
    """Whether each number is within the bounds that hold whatever the kind uses."""
    return (
        0 <= part.kind <= LAST_KIND
        and all([0 <= place <= MOST_PLACE for place in part.places])
        and -MOST_TOP <= part.top <= MOST_TOP
        and 1 <= part.bottom <= MOST_BOTTOM
    )


def is_row(net):
    """Whether net is a row that hands a network over, be that network right or wrong."""
    # An empty row fails here, so there is a first number to look at.
    if len(net) % PART_LENGTH != 1 or not 1 <= net[0] <= MOST_NODES:
        return False
    parts = parts_of(net)
    if len(parts) > MOST_PARTS or diode_count(parts) > MOST_DIODES:
        return False
    return all([is_part(part) for part in parts])
