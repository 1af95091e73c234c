"""Patterns: the cells in which a number stands in a filling, one in each row, column and region.

Where there are regions, the patterns are few enough to be kept, and what no pattern of a number has is struck:
without it a search may go astray for very long.
"""

MOST_PATTERNS = 50000


def patterns_of(square):
    """Of each number all its patterns; nothing if there are no regions, or too many patterns to keep."""
    n = square.n
    if len(square.units) == 2 * n:
        return []
    units = units_of_cells(square)
    found = [(0, 0)]
    for row in square.units[:n]:
        found = longer_patterns(n, found, row, units)
        if len(found) > MOST_PATTERNS:
            return []
    return [shifted(found, number) for number in range(n)]


def units_of_cells(square):
    """Of each cell its units, as a set with a bit for each unit."""
    units = [0] * (square.n * square.n)
    for u, unit in enumerate(square.units):
        for cell in unit:
            units[cell] |= 1 << u
    return units


def longer_patterns(n, found, row, units):
    """Beginnings of patterns, each with the units that it has, by one row longer."""
    longer = []
    for pattern, taken in found:
        for cell in row:
            if not taken & units[cell]:
                longer.append((pattern | 1 << n * cell, taken | units[cell]))
    return longer


def shifted(found, number):
    return [pattern << number for pattern, taken in found]
