"""Partings: the cells parted into as many patterns as there are numbers, not yet told which number has which.

Where regions leave few patterns, all partings are soon found. With signs that's far quicker than a search,
which goes through each parting again and again, its numbers exchanged for one another.
"""

FEW_PATTERNS = 3000
MOST_STATES = 100000
MOST_PARTINGS = 1000


def all_partings(square, patterns):
    """All partings, each as a list of patterns; None if there are too many to be gone through."""
    if len(patterns) > FEW_PATTERNS:
        return None
    stack = [(square.of_numbers[0], patterns, [])]
    partings = []
    states = 0
    while stack:
        entry = stack.pop()
        cells = entry[0]
        fitting = entry[1]
        states += 1
        if states > MOST_STATES or len(partings) > MOST_PARTINGS:
            return None
        if not cells:
            partings.append(entry[2])
        elif all_of(fitting) == cells:
            for pattern in fewest_in_first_row(square.n, cells, fitting):
                others = [other for other in fitting if not other & pattern]
                stack.append((cells ^ pattern, others, entry[2] + [pattern]))
    return partings


def all_of(patterns):
    cells = 0
    for pattern in patterns:
        cells |= pattern
    return cells


def fewest_in_first_row(n, cells, fitting):
    """The patterns through that cell of the first row, of those left, that has the fewest."""
    fewest = fitting
    for column in range(n):
        cell = 1 << n * column
        if cells & cell:
            through = [pattern for pattern in fitting if pattern & cell]
            if len(through) < len(fewest):
                fewest = through
    return fewest


def first_of_partings(square, partings, orders):
    """The marks of the first filling by the cells' own orders that has one of the partings, or 0."""
    best = 0
    best_places = []
    for parting in partings:
        parts = parts_of_cells(square, parting)
        numbers = first_numbers(square, parts, orders)
        if numbers:
            inside = [numbers[part] for part in parts]
            places = [order.index(number) for order, number in zip(orders, inside)]
            if not best or places < best_places:
                best_places = places
                best = sum([1 << square.n * cell + number - 1 for cell, number in enumerate(inside)])
    return best


def parts_of_cells(square, parting):
    """Of each cell the column in which its pattern goes through the first row."""
    parts = [0] * (square.n * square.n)
    for pattern in parting:
        cells = [cell for cell in range(square.n * square.n) if pattern >> square.n * cell & 1]
        for cell in cells:
            parts[cell] = cells[0]
    return parts


def first_numbers(square, parts, orders):
    """The numbers of the parts, first by the own orders of the first row, or nothing if signs allow none."""
    less = sorted(set([(parts[a], parts[b]) for a, b in square.signs]))
    numbers = [0] * square.n
    for part in range(square.n):
        for number in orders[part]:
            if number not in numbers:
                numbers[part] = number
                if can_be_numbered(numbers, less):
                    break
                numbers[part] = 0
        if not numbers[part]:
            return []
    return numbers


def can_be_numbered(numbers, less):
    """Whether the parts without a number (0) can have the others, so that of each pair the first has the less."""
    n = len(numbers)
    least = [number or 1 for number in numbers]
    greatest = [number or n for number in numbers]
    # A chain of pairs has no more than n - 1 of them.
    for length in range(n - 1):
        for a, b in less:
            least[b] = max(least[b], least[a] + 1)
            greatest[a] = min(greatest[a], greatest[b] - 1)
    left = list(range(n))
    for number in range(1, n + 1):
        ready = [part for part in left if least[part] <= number]
        if not ready:
            return False
        part = min(ready, key=lambda own: greatest[own])
        if greatest[part] < number:
            return False
        left.remove(part)
    return True
