"""The kinds of element, and how many nodes and currents one of each kind has."""

RESISTOR = 0
CAPACITOR = 1
INDUCTOR = 2
MUTUAL = 3
VOLTAGE_SOURCE = 4
CURRENT_SOURCE = 5
VOLTAGE_BY_VOLTAGE = 6
CURRENT_BY_VOLTAGE = 7
VOLTAGE_BY_CURRENT = 8
CURRENT_BY_CURRENT = 9
TRANSFORMER = 10
AMPLIFIER = 11
SWITCH = 12
DIODE = 13

# One number for each kind, 0 to 13. A mutual inductance names two inductors where others name nodes.
NODE_COUNTS = (2, 2, 2, 0, 2, 2, 4, 4, 2, 2, 4, 4, 2, 2)
CURRENT_COUNTS = (1, 1, 1, 0, 1, 1, 1, 1, 1, 1, 2, 1, 1, 1)
