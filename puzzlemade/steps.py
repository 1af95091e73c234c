"""Steps: numbers struck in cells, kind by kind.

The order of the steps makes no difference to where they end, so they are taken as they come. Where less is
in the cells, a step strikes all that it would have struck before, unless the square is broken; so two orders
end with the same marks, or both with a broken square. Kinds 5 and 6 are looked for only where some filling is
still among the marks: there the square doesn't break.
"""

from puzzlemade.squares import bits_of

HARDEST_CHECK = 4


def settle(square, marks, due, hardest):
    """What steps of kinds up to the hardest (1 to 4) leave of the marks, from the checks that are due.

    If the square gets broken it's ~g, below 0, where g is a group of which nothing is left.
    """
    allowed = square.due[hardest]
    due &= allowed
    while due:
        lowest = due & -due
        check = lowest.bit_length() - 1
        due ^= lowest
        if check < square.first_sign:
            left = marks & square.groups[check]
            if left & (left - 1):
                continue
            if not left:
                return ~check
            gone = marks & square.rivals[left.bit_length() - 1]
        elif check < square.first_locked:
            gone = struck_by_sign(square, marks, square.signs[check - square.first_sign])
        else:
            gone = struck_by_lock(marks, square.locked[check - square.first_locked])
        if gone:
            marks ^= gone
            due |= checks_behind(square, gone) & allowed
    return marks


def struck_by_sign(square, marks, sign):
    # The cells' own checks came first: something is in both.
    less = square.n * sign[0]
    greater = square.n * sign[1]
    in_less = marks >> less & square.numbers
    in_greater = marks >> greater & square.numbers
    up_to_least = in_less ^ (in_less - 1)
    below_greatest = (1 << (in_greater.bit_length() - 1)) - 1
    return (in_greater & up_to_least) << greater | (in_less & ~below_greatest) << less


def struck_by_lock(marks, locked):
    left = marks & locked[0]
    gone = 0
    for outside, struck in locked[1]:
        if not left & outside:
            gone |= marks & struck
    return gone


def checks_behind(square, gone):
    due = 0
    while gone:
        lowest = gone & -gone
        due |= square.checks[lowest.bit_length() - 1]
        gone ^= lowest
    return due


def strike(square, marks, gone):
    """What steps of kinds 1 to 4 leave where the marks that are gone are struck; below 0 if it's broken."""
    return settle(square, marks ^ gone, checks_behind(square, gone), HARDEST_CHECK)


def strike_few(square, marks):
    """What is left behind one step of kind 5 and those of kinds 1 to 4; the same marks if there's none."""
    for unit in square.units:
        inside = [marks >> square.n * cell & square.numbers for cell in unit]
        for few in few_for_few(square, inside):
            gone = 0
            for cell, numbers in zip(unit, inside):
                if numbers & ~few:
                    gone |= (numbers & few) << square.n * cell
            if gone:
                return strike(square, marks, gone)
    return marks


def few_for_few(square, inside):
    """The sets of two or three numbers that fill as many cells of a unit, by what is in its cells.

    Such a set is all that is in some two of its cells, but for cells with one number, where kind 1 has
    struck what there was to strike.
    """
    small = [numbers for numbers in inside if 1 < square.sizes[numbers] < 4]
    found = []
    for i, numbers in enumerate(small):
        for other in small[:i]:
            both = numbers | other
            filled = len([1 for own in inside if not own & ~both])
            if filled == square.sizes[both] < 4:
                found.append(both)
    return found


def strike_trials(square, marks, cell):
    """What is left behind a round of trials, the cell's own first; cut short when it has one number."""
    for tried in [cell] + list(range(square.n * square.n)):
        group = square.groups[tried]
        if is_open(marks & group):
            for mark in bits_of(marks & group):
                if strike(square, marks, marks & square.rivals[mark]) < 0:
                    marks = strike(square, marks, marks & (1 << mark))
            if not is_open(marks & square.groups[cell]):
                return marks
    return marks


def is_open(left):
    """Whether more than one mark is left."""
    return left & (left - 1) != 0


def finds(square, marks, cell, hardest):
    """Whether steps up to the hardest kind (1 to 6) leave one number alone in the cell."""
    easy = min(hardest, HARDEST_CHECK)
    marks = settle(square, marks, square.due[easy], easy)
    while is_open(marks & square.groups[cell]):
        before = marks
        if hardest >= 5:
            marks = strike_few(square, marks)
        if hardest >= 6 and marks == before:
            marks = strike_trials(square, marks, cell)
        if marks == before:
            return False
    return True
