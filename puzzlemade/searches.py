"""Searches for some filling of a square.

Which number is tried first, and where, makes a great difference: a search may end at once, or go astray for very
long. So none is relied on alone; they are broken off, and followed by turns.
"""

from puzzlemade.steps import checks_behind, is_open, settle

PLAIN = 2
SIGNED = 3
UNKNOWN = -1
SLICE = 60
SLOWER = 4


class State:
    """Where a search stands: the marks, the checks that are due, the groups that may be open, the patterns.

    The patterns are kept number by number, and beside them what marks they have.
    """

    def __init__(self, marks, due, groups, patterns, covered):
        self.marks = marks
        self.due = due
        self.groups = groups
        self.patterns = patterns
        self.covered = covered

    def struck(self, square, gone):
        due = self.due | checks_behind(square, gone)
        return State(self.marks ^ gone, due, self.groups, list(self.patterns), list(self.covered))

    def standing(self, square, mark):
        return self.struck(square, self.marks & square.rivals[mark])


class Search:
    """The searches in one square by steps up to a kind: PLAIN, which pass over the signs, or SIGNED.

    If it weighs, groups that came out empty weigh more, and are looked at sooner.
    """

    def __init__(self, square, patterns, hardest, weighs):
        self.square = square
        self.patterns = patterns
        self.hardest = hardest
        self.weighs = weighs
        self.weights = [1] * len(square.groups)

    def first_state(self):
        square = self.square
        marks = (1 << len(square.rivals)) - 1
        groups = list(range(len(square.groups)))
        return State(marks, square.due[self.hardest], groups, list(self.patterns), [-1] * len(self.patterns))

    def narrow(self, state):
        """Strikes what can't stand, by steps and patterns; below 0 are the marks if there's no filling."""
        state.marks = settle(self.square, state.marks, state.due, self.hardest)
        state.due = 0
        while state.marks >= 0:
            gone = uncovered(self.square, state)
            if not gone:
                return
            due = checks_behind(self.square, gone)
            state.marks = settle(self.square, state.marks ^ gone, due, self.hardest)
        if self.weighs:
            self.weights[~state.marks] += 1

    def narrowest_group(self, state):
        """The marks of the open group that has the fewest for its weight, or 0; other groups are let go."""
        still_open = []
        narrowest = 0
        fewest = self.square.n + 1
        weight = 1
        for group in state.groups:
            left = state.marks & self.square.groups[group]
            if is_open(left):
                still_open.append(group)
                count = count_up_to(left, (fewest * self.weights[group] - 1) // weight)
                if count:
                    narrowest = left
                    fewest = count
                    weight = self.weights[group]
        state.groups = still_open
        return narrowest


class Run:
    """A search from one state on that may be broken off and gone on with."""

    def __init__(self, search, state):
        self.search = search
        self.stack = [state]

    def go_on(self, most):
        """The marks of some filling, 0 if there is none, or UNKNOWN behind so many states."""
        square = self.search.square
        while self.stack:
            if most == 0:
                return UNKNOWN
            most -= 1
            state = self.stack.pop()
            self.search.narrow(state)
            if state.marks < 0:
                continue
            left = self.search.narrowest_group(state)
            if not left:
                return state.marks
            mark = (left & -left).bit_length() - 1
            self.stack.append(state.struck(square, 1 << mark))
            self.stack.append(state.standing(square, mark))
        return 0


class Turns:
    """How long one try after the other may take: 1, 1, 2, 1, 1, 2, 4, 1, 1, 2, ..

    Some tries end soon and others hardly ever, and it can't be told which: so most tries are short.
    """

    def __init__(self):
        self.turn = 1
        self.length = 1

    def following(self):
        length = self.length
        if self.turn & -self.turn == length:
            self.turn += 1
            self.length = 1
        else:
            self.length = 2 * length
        return length


def count_up_to(marks, most):
    """How many marks there are, or 0 if more than so many."""
    count = 0
    while marks:
        if count == most:
            return 0
        marks &= marks - 1
        count += 1
    return count


def uncovered(square, state):
    """The marks that no pattern of their number has, patterns with struck marks being dropped."""
    gone = 0
    for number in range(len(state.patterns)):
        left = state.marks & square.of_numbers[number]
        if left != state.covered[number]:
            outside = square.of_numbers[number] ^ left
            patterns = [pattern for pattern in state.patterns[number] if not pattern & outside]
            covered = 0
            for pattern in patterns:
                covered |= pattern
            state.patterns[number] = patterns
            state.covered[number] = covered
            gone |= left ^ covered
    return gone


def some_filling(searches, state, orders):
    """The marks of some filling that the state leaves, or 0.

    Between two parts of the whole searches a guess of all numbers of some unit is followed for a while: it often
    shows a filling at once. That there is none, the whole searches alone can tell.
    """
    first = searches[0]
    first.narrow(state)
    if state.marks < 0:
        return 0
    wholes = [Run(search, state.struck(search.square, 0)) for search in searches]
    found = wholes[0].go_on(SLICE)
    turns = Turns()
    guesses = 0
    while found == UNKNOWN:
        most = SLICE * turns.following()
        guess = guessed_unit(first, state, orders, guesses)
        guesses += 1
        if guess.marks >= 0:
            found = Run(first, guess).go_on(most)
        if found <= 0:
            found = first_known(wholes, most)
    return found


def first_known(wholes, most):
    """What the first whole search that comes to an end has found; UNKNOWN if behind so many states none does.

    The first of them is the quicker one for most squares, so the others go on more slowly.
    """
    for whole in wholes:
        found = whole.go_on(most)
        if found != UNKNOWN:
            return found
        most = most // SLOWER
    return UNKNOWN


def guessed_unit(search, state, orders, guesses):
    """The state with a guess of what stands in each cell of one unit; below 0 are the marks if it can't be."""
    units = search.square.units
    for cell in units[guesses % len(units)]:
        shift = guesses // len(units) % search.square.n
        state = guessed_cell(search, state, cell, orders[cell][shift:] + orders[cell][:shift])
        if state.marks < 0:
            return state
    return state


def guessed_cell(search, state, cell, order):
    guess = state
    for number in order:
        mark = search.square.n * cell + number - 1
        if state.marks >> mark & 1:
            guess = state.standing(search.square, mark)
            search.narrow(guess)
            if guess.marks >= 0:
                return guess
    return guess
