"""Fillings of a frame: whether there is any, and which is the first by the cells' own orders.

All cells in which a number stands in a filling are a pattern: one in each row, column and region. Where
there are regions, the patterns are few enough to be kept, and what no pattern of a number has is struck:
without it a search may go astray for very long.
"""

from puzzlemade.steps import checks_behind, is_open, settle

MOST_PATTERNS = 50000
SEARCH_KIND = 3


class State:
    """Where a search stands: the marks, the checks that are due, the groups that may be open, the patterns.

    The patterns are kept number by number, and beside them what marks they have.
    """

    def __init__(self, marks, due, groups, patterns, covered):
        self.marks = marks
        self.due = due
        self.groups = groups
        self.patterns = patterns
        self.covered = covered

    def struck(self, square, gone):
        due = self.due | checks_behind(square, gone)
        return State(self.marks ^ gone, due, self.groups, list(self.patterns), list(self.covered))

    def standing(self, square, mark):
        return self.struck(square, self.marks & square.rivals[mark])


class Search:
    """The searches in one square. Groups that came out empty weigh more, and are looked at sooner."""

    def __init__(self, square):
        self.square = square
        self.weights = [1] * len(square.groups)

    def narrow(self, state):
        """Strikes what can't stand, by steps and patterns; below 0 are the marks if there's no filling."""
        state.marks = settle(self.square, state.marks, state.due, SEARCH_KIND)
        state.due = 0
        while state.marks >= 0:
            gone = uncovered(self.square, state)
            if not gone:
                return
            due = checks_behind(self.square, gone)
            state.marks = settle(self.square, state.marks ^ gone, due, SEARCH_KIND)
        # Patterns know better than weights: where they are kept, weights lead astray.
        if not state.patterns:
            self.weights[~state.marks] += 1

    def some_filling(self, state):
        """The marks of some filling that the state leaves, or 0."""
        stack = [state]
        while stack:
            state = stack.pop()
            self.narrow(state)
            if state.marks < 0:
                continue
            left = self.narrowest_group(state)
            if not left:
                return state.marks
            mark = (left & -left).bit_length() - 1
            stack.append(state.struck(self.square, 1 << mark))
            stack.append(state.standing(self.square, mark))
        return 0

    def narrowest_group(self, state):
        """The marks of the open group that has the fewest for its weight, or 0; other groups are let go."""
        still_open = []
        narrowest = 0
        fewest = self.square.n + 1
        weight = 1
        for group in state.groups:
            left = state.marks & self.square.groups[group]
            if is_open(left):
                still_open.append(group)
                count = count_up_to(left, (fewest * self.weights[group] - 1) // weight)
                if count:
                    narrowest = left
                    fewest = count
                    weight = self.weights[group]
        state.groups = still_open
        return narrowest


def count_up_to(marks, most):
    """How many marks there are, or 0 if more than so many."""
    count = 0
    while marks:
        if count == most:
            return 0
        marks &= marks - 1
        count += 1
    return count


def uncovered(square, state):
    """The marks that no pattern of their number has, patterns with struck marks being dropped."""
    gone = 0
    for number in range(len(state.patterns)):
        left = state.marks & square.of_numbers[number]
        if left != state.covered[number]:
            outside = square.of_numbers[number] ^ left
            patterns = [pattern for pattern in state.patterns[number] if not pattern & outside]
            covered = 0
            for pattern in patterns:
                covered |= pattern
            state.patterns[number] = patterns
            state.covered[number] = covered
            gone |= left ^ covered
    return gone


def patterns_of(square):
    """Of each number all its patterns; nothing if there are no regions, or too many patterns to keep."""
    n = square.n
    if len(square.units) == 2 * n:
        return []
    units = units_of_cells(square)
    found = [(0, 0)]
    for row in square.units[:n]:
        found = longer_patterns(n, found, row, units)
        if len(found) > MOST_PATTERNS:
            return []
    return [shifted(found, number) for number in range(n)]


def units_of_cells(square):
    """Of each cell its units, as a set with a bit for each unit."""
    units = [0] * (square.n * square.n)
    for u, unit in enumerate(square.units):
        for cell in unit:
            units[cell] |= 1 << u
    return units


def longer_patterns(n, found, row, units):
    """Beginnings of patterns, each with the units that it has, by one row longer."""
    longer = []
    for pattern, taken in found:
        for cell in row:
            if not taken & units[cell]:
                longer.append((pattern | 1 << n * cell, taken | units[cell]))
    return longer


def shifted(found, number):
    return [pattern << number for pattern, taken in found]


def first_state(square, orders):
    """The state ahead of all searches.

    Without signs numbers may be exchanged for one another in a filling: if there is one at all, there is
    one with the first row that comes first by its cells' own orders.
    """
    marks = (1 << len(square.rivals)) - 1
    if not square.signs:
        for cell, order in enumerate(orders[:square.n]):
            own = [square.n * cell + number - 1 for number in order]
            free = [mark for mark in own if marks >> mark & 1]
            marks &= ~square.rivals[free[0]]
    patterns = patterns_of(square)
    groups = list(range(len(square.groups)))
    return State(marks, square.due[SEARCH_KIND], groups, patterns, [-1] * len(patterns))


def first_filling(square, orders):
    """The marks of the first filling by the cells' own orders, or 0 if there is none."""
    search = Search(square)
    state = first_state(square, orders)
    filling = search.some_filling(state.struck(square, 0))
    if not filling:
        return 0
    search.narrow(state)
    for cell, order in enumerate(orders):
        for number in order:
            mark = square.n * cell + number - 1
            if filling >> mark & 1:
                break
            if state.marks >> mark & 1:
                found = search.some_filling(state.standing(square, mark))
                if found:
                    filling = found
                    break
                state = state.struck(square, 1 << mark)
                search.narrow(state)
        state = state.standing(square, mark)
        search.narrow(state)
    return filling
