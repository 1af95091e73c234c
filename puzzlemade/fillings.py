"""Fillings of a frame: whether there is any, and which is the first by the cells' own orders."""

from puzzlemade.partings import all_partings, first_of_partings
from puzzlemade.patterns import patterns_of
from puzzlemade.searches import PLAIN, SIGNED, SLICE, UNKNOWN, Run, Search, some_filling


def first_filling(square, orders):
    """The marks of the first filling by the cells' own orders, or 0 if there is none."""
    patterns = patterns_of(square)
    if patterns:
        partings = all_partings(square, patterns[0])
        if partings is not None:
            return first_of_partings(square, partings, orders)
    return first_by_searches(square, patterns, orders)


def first_by_searches(square, patterns, orders):
    filling = filling_without_signs(square, patterns)
    if not filling:
        return 0
    searches = signed_searches(square, patterns)
    state = searches[0].first_state()
    if square.signs:
        filling = some_filling(searches, state.struck(square, 0), orders)
        if not filling:
            return 0
    else:
        row = first_row(square, orders)
        filling = renumbered(square, filling, row)
        settle_cells(square, state, square.units[0], row)
    return first_from(searches, state, orders, filling)


def signed_searches(square, patterns):
    """The searches that are followed by turns, the one that's quicker for most squares first."""
    if not patterns:
        return [Search(square, patterns, SIGNED, True)]
    # Patterns mostly know better than weights; but where they lead astray, weights are often a way out.
    return [Search(square, patterns, SIGNED, False), Search(square, patterns, SIGNED, True)]


def filling_without_signs(square, patterns):
    """The marks of some filling of a square, its signs passed over, or 0.

    Without signs the numbers may be exchanged for one another, so those of one unit are settled as one likes.
    Which unit makes a great difference: the searches from each of them on are followed by turns.
    """
    runs = []
    for unit in square.units:
        search = Search(square, patterns, PLAIN, not patterns)
        state = search.first_state()
        settle_cells(square, state, unit, list(range(1, square.n + 1)))
        runs.append(Run(search, state))
    while True:
        for run in runs:
            found = run.go_on(SLICE)
            if found != UNKNOWN:
                return found


def settle_cells(square, state, cells, numbers):
    for cell, number in zip(cells, numbers):
        state.marks &= ~square.rivals[square.n * cell + number - 1]


def first_row(square, orders):
    """The first row that comes first by its cells' own orders, if numbers may be exchanged for one another."""
    row = []
    for order in orders[:square.n]:
        row.append([number for number in order if number not in row][0])
    return row


def renumbered(square, filling, row):
    """The filling with its numbers exchanged for one another, so that it has this first row."""
    n = square.n
    inside = [filling >> n * cell & square.numbers for cell in range(n * n)]
    return sum([1 << n * cell + row[inside.index(number)] - 1 for cell, number in enumerate(inside)])


def first_from(searches, state, orders, filling):
    """The first filling that the state leaves, by the cells' own orders; some filling that it leaves is told."""
    search = searches[0]
    square = search.square
    search.narrow(state)
    for cell, order in enumerate(orders):
        for number in order:
            mark = square.n * cell + number - 1
            if filling >> mark & 1:
                break
            if state.marks >> mark & 1:
                found = some_filling(searches, state.standing(square, mark), orders)
                if found:
                    filling = found
                    break
                state = state.struck(square, 1 << mark)
                search.narrow(state)
        state = state.standing(square, mark)
        search.narrow(state)
    return filling
