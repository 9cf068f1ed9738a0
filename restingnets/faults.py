"""What is wrong with a network whose row is one."""

from restingnets.kinds import AMPLIFIER, CAPACITOR, DIODE, INDUCTOR, MUTUAL, RESISTOR, SWITCH, TRANSFORMER
from restingnets.rows import nodes_of, references_of

NO_FAULT = 0
NODE_FAULT = 1
NUMBER_FAULT = 2
REFERENCE_FAULT = 3


def may_have_number(part):
    """Whether an element's kind allows its number, whatever other elements there are."""
    if part.kind in (RESISTOR, CAPACITOR, INDUCTOR):
        return part.top > 0
    if part.kind == TRANSFORMER:
        return part.top != 0
    if part.kind == AMPLIFIER:
        return part.top == 0
    if part.kind == SWITCH:
        # The fraction need not be in lowest terms: 2 over 2 is 1 too.
        return part.top in (0, part.bottom)
    if part.kind == DIODE:
        return part.top >= 0
    return True


def is_new_pair(pair, before):
    """Whether two inductors are different and no element before couples them, either way round."""
    taken = [sorted(references_of(part)) for part in before if part.kind == MUTUAL]
    return pair[0] != pair[1] and sorted(pair) not in taken


def may_refer(part, before):
    """Whether what an element refers to stands before it and is what it may be."""
    references = references_of(part)
    if any([x >= len(before) for x in references]):
        return False
    referred = [before[x].kind for x in references]
    if part.kind == MUTUAL:
        return referred == [INDUCTOR, INDUCTOR] and is_new_pair(references, before)
    return MUTUAL not in referred


def is_coupled_too_much(part, before):
    """Whether the square of a mutual inductance is above the product of its two inductors' numbers."""
    first = before[part.places[0]]
    second = before[part.places[1]]
    square = part.top * part.top * first.bottom * second.bottom
    product = first.top * second.top * part.bottom * part.bottom
    return square > product


def part_fault(part, before, last_node):
    """What is wrong with an element, given those before it, all of which are right."""
    if any([node > last_node for node in nodes_of(part)]):
        return NODE_FAULT
    if not may_have_number(part):
        return NUMBER_FAULT
    if not may_refer(part, before):
        return REFERENCE_FAULT
    # Only now are both references sure to be inductors whose numbers can be multiplied.
    if part.kind == MUTUAL and is_coupled_too_much(part, before):
        return NUMBER_FAULT
    return NO_FAULT


def first_fault(parts, last_node):
    """The first element that has something wrong and what that is, or an empty list."""
    for k, part in enumerate(parts):
        fault = part_fault(part, parts[:k], last_node)
        if fault != NO_FAULT:
            return [k, fault]
    return []
