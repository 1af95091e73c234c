"""Frames: what of them is refused, and the units and signs that they tell."""

NO_REGION = 255
WRONG_SIZE = -22
WRONG_REGIONS = -71
WRONG_SIGNS = -72
WRONG_GIVEN = -73


def frame_refusal(n, regions, right, down, given):
    """The first refusal that the frame by itself calls for, or 0."""
    if n < 2 or n > 9:
        return WRONG_SIZE
    if not regions_are_as_told(n, regions):
        return WRONG_REGIONS
    if not signs_are_as_told(n, right, down):
        return WRONG_SIGNS
    if any([number > n for number in given]):
        return WRONG_GIVEN
    return 0


def regions_are_as_told(n, regions):
    if regions.count(NO_REGION) == n * n:
        return True
    return all([regions.count(region) == n for region in range(n)])


def signs_are_as_told(n, right, down):
    if any([sign > 2 for sign in right + down]):
        return False
    last_column = [right[n * r + n - 1] for r in range(n)]
    last_row = [down[n * (n - 1) + c] for c in range(n)]
    return not any(last_column) and not any(last_row)


def units_of(n, regions):
    """The cells of each unit: the rows, the columns, then the regions, if there are any."""
    cells = list(range(n * n))
    rows = [cells[n * r:n * r + n] for r in range(n)]
    columns = [cells[c::n] for c in range(n)]
    if regions[0] == NO_REGION:
        return rows + columns
    return rows + columns + [cells_of_region(regions, region) for region in range(n)]


def cells_of_region(regions, region):
    return [cell for cell, own in enumerate(regions) if own == region]


def signs_of(n, right, down):
    """Each sign as a pair: the cell of the less number, the cell of the greater one."""
    signs = []
    for cell in range(n * n):
        for sign, neighbour in ((right[cell], cell + 1), (down[cell], cell + n)):
            if sign == 1:
                signs.append((cell, neighbour))
            if sign == 2:
                signs.append((neighbour, cell))
    return signs
