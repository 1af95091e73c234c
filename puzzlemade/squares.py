"""A frame laid out so that numbers are struck quickly.

A number v that is in a cell is a mark, and the mark's number is n * cell + v - 1. All that is in the cells
is one whole number with a bit for each mark: to go back to it later it's enough to keep that number.

A group is a cell with each number, or a unit and one number, in each of the unit's cells: of each group a
filling has just one mark.

A check is a place where there may be a step. The checks are numbered from the easiest: the groups of the
cells (kind 1), those of the units (kind 2), the signs (kind 3), the groups that may be locked (kind 4).
Some checks together are one whole number with a bit for each of them, as the marks are.
"""

from puzzlemade.frames import signs_of, units_of


class Square:
    """The tables of one frame; of what's given they hold nothing."""

    def __init__(self, n, regions, right, down):
        self.n = n
        self.units = units_of(n, regions)
        self.signs = signs_of(n, right, down)
        self.numbers = (1 << n) - 1
        self.sizes = sizes_of_sets(n)
        self.of_numbers = [marks_of_number(n, list(range(n * n)), number) for number in range(n)]
        self.groups = groups_of_cells(n) + groups_of_units(n, self.units)
        self.rivals = rivals_of_marks(n, self.groups)
        self.locked = locked_groups(n, self.units, self.groups)
        self.first_sign = len(self.groups)
        self.first_locked = self.first_sign + len(self.signs)
        self.checks = checks_of_marks(self)
        self.due = checks_up_to_kinds(self)


def sizes_of_sets(n):
    """How many numbers are in each set of numbers from 1 to n; bit v - 1 of the set is the number v."""
    sizes = [0]
    for number in range(n):
        sizes = sizes + [size + 1 for size in sizes]
    return sizes


def bits_of(whole):
    places = []
    while whole:
        lowest = whole & -whole
        places.append(lowest.bit_length() - 1)
        whole ^= lowest
    return places


def groups_of_cells(n):
    numbers = (1 << n) - 1
    return [numbers << n * cell for cell in range(n * n)]


def groups_of_units(n, units):
    groups = []
    for unit in units:
        for number in range(n):
            groups.append(marks_of_number(n, unit, number))
    return groups


def marks_of_number(n, cells, number):
    return sum([1 << n * cell + number for cell in cells])


def rivals_of_marks(n, groups):
    """Of each mark the others that share a group with it: where it stands, none of them does."""
    shared = [0] * (n * n * n)
    for group in groups:
        for mark in bits_of(group):
            shared[mark] |= group
    return [marks ^ (1 << mark) for mark, marks in enumerate(shared)]


def locked_groups(n, units, groups):
    """The groups of units that may be locked in another unit: each with a pair for each such unit.

    The pair is what must be gone of the group, and what is struck then. Units with one cell alone in
    common are left out: what would be struck there, the kinds 2 and 1 strike.
    """
    locked = []
    for u, unit in enumerate(units):
        others = [w for w, other in enumerate(units) if w != u and cells_in_common(unit, other) > 1]
        for number in range(n):
            group = groups[n * n + n * u + number]
            pairs = [apart(group, groups[n * n + n * w + number]) for w in others]
            if pairs:
                locked.append((group, pairs))
    return locked


def cells_in_common(unit, other):
    return len([cell for cell in unit if cell in other])


def apart(group, other):
    return (group & ~other, other & ~group)


def checks_of_marks(square):
    """Of each mark the checks at which there may be a new step once it is struck."""
    watched = list(square.groups)
    for sign in square.signs:
        watched.append(square.groups[sign[0]] | square.groups[sign[1]])
    for entry in square.locked:
        watched.append(entry[0])
    checks = [0] * len(square.rivals)
    for check, marks in enumerate(watched):
        for mark in bits_of(marks):
            checks[mark] |= 1 << check
    return checks


def checks_up_to_kinds(square):
    """Under each kind from 0 to 4 all checks of kinds up to it."""
    counts = [0, square.n * square.n, square.first_sign, square.first_locked]
    counts.append(square.first_locked + len(square.locked))
    return [(1 << count) - 1 for count in counts]
