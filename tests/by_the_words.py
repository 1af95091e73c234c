"""make and filling as the document words them, step by step and with no thought of time.

Tests hold the program against it.
"""

from itertools import combinations


class Drawing:
    def __init__(self, seed):
        self.x = seed

    def below(self, m):
        self.x = (self.x * 6364136223846793005 + 1442695040888963407) % 2 ** 64
        return self.x // 2 ** 33 % m

    def shuffle(self, things):
        for i in range(len(things) - 1, 0, -1):
            j = self.below(i + 1)
            things[i], things[j] = things[j], things[i]
        return things


class Frame:
    def __init__(self, n, regions, right, down):
        self.n = n
        self.cells = range(n * n)
        self.units = [[n * r + c for c in range(n)] for r in range(n)]
        self.units += [[n * r + c for r in range(n)] for c in range(n)]
        if regions[0] != 255:
            self.units += [[k for k in self.cells if regions[k] == g] for g in range(n)]
        self.signs = []
        for k in self.cells:
            for sign, other in ((right[k], k + 1), (down[k], k + n)):
                if sign:
                    self.signs.append((k, other) if sign == 1 else (other, k))
        self.peers = [sorted({p for u in self.units if k in u for p in u if p != k}) for k in self.cells]


def first_filling(frame, orders):
    """The first filling by the cells' own orders, cell by cell, or None."""
    numbers = [0] * len(frame.cells)
    # The cells are filled in order: those before a cell are all that it has to fit.
    before = [[p for p in frame.peers[k] if p < k] for k in frame.cells]
    signs = [[sign for sign in frame.signs if max(sign) == k] for k in frame.cells]

    def fill(k):
        if k == len(numbers):
            return True
        taken = [numbers[p] for p in before[k]]
        for v in orders[k]:
            if v not in taken:
                numbers[k] = v
                if all(numbers[a] < numbers[b] for a, b in signs[k]) and fill(k + 1):
                    return True
        return False

    return numbers if fill(0) else None


def is_filling(frame, numbers):
    """Whether this is a filling, what is given left aside."""
    if any(sorted(numbers[k] for k in unit) != list(range(1, frame.n + 1)) for unit in frame.units):
        return False
    return all(numbers[a] < numbers[b] for a, b in frame.signs)


def fillings_with(frame, given, most):
    """So many of the fillings in which stands what is given, or all if there are fewer."""
    found = []

    def fitting(numbers, k):
        if numbers[k]:
            return set()
        least = max([numbers[a] for a, b in frame.signs if b == k], default=0)
        greatest = min([numbers[b] for a, b in frame.signs if a == k and numbers[b]], default=frame.n + 1)
        return set(range(least + 1, greatest)) - {numbers[p] for p in frame.peers[k]}

    def choices(numbers):
        """In each empty cell what fits there, and for each number that a unit lacks the cells that it fits in."""
        fits = [fitting(numbers, k) for k in frame.cells]
        for k in frame.cells:
            if not numbers[k]:
                yield [(k, v) for v in fits[k]]
        for unit in frame.units:
            for v in set(range(1, frame.n + 1)) - {numbers[k] for k in unit}:
                yield [(k, v) for k in unit if v in fits[k]]

    def fill(numbers):
        if all(numbers):
            found.append(numbers)
        for k, v in min(choices(numbers), key=len, default=()):
            if len(found) < most:
                fill(numbers[:k] + [v] + numbers[k + 1:])

    fill(list(given))
    return [numbers for numbers in found if is_filling(frame, numbers)]


def is_broken(frame, inside):
    if not all(inside):
        return True
    return any(not any(v in inside[k] for k in unit) for unit in frame.units for v in range(1, frame.n + 1))


def settled(frame, inside):
    for k in frame.cells:
        if len(inside[k]) == 1:
            yield [(p, inside[k]) for p in frame.peers[k]]


def only_place(frame, inside):
    for unit in frame.units:
        for v in range(1, frame.n + 1):
            places = [k for k in unit if v in inside[k]]
            if len(places) == 1:
                yield [(places[0], inside[places[0]] - {v})]


def sign(frame, inside):
    for a, b in frame.signs:
        if inside[a] and inside[b]:
            least = min(inside[a])
            greatest = max(inside[b])
            yield [(b, {v for v in inside[b] if v <= least}), (a, {v for v in inside[a] if v >= greatest})]


def locked(frame, inside):
    for u, unit in enumerate(frame.units):
        for w, other in enumerate(frame.units):
            for v in range(1, frame.n + 1):
                places = [k for k in unit if v in inside[k]]
                if u != w and places and all(k in other for k in places):
                    yield [(k, {v}) for k in other if k not in places]


def few_for_few(frame, inside):
    for m in (2, 3):
        for unit in frame.units:
            sets = sorted(combinations(range(1, frame.n + 1), m), key=lambda few: sum(2 ** v for v in few))
            for few in map(set, sets):
                places = [k for k in unit if inside[k] and inside[k] <= few]
                if len(places) == m:
                    yield [(k, few) for k in unit if k not in places]


def trial(frame, inside):
    for k in frame.cells:
        if len(inside[k]) > 1:
            for v in sorted(inside[k]):
                tried = [set(numbers) for numbers in inside]
                tried[k] = {v}
                if is_broken(frame, all_steps(frame, tried, 4)):
                    yield [(k, {v})]


KINDS = (settled, only_place, sign, locked, few_for_few, trial)


def first_step(frame, inside, hardest):
    """What the first step strikes, or None if there is no step."""
    for kind in KINDS[:hardest]:
        for struck in kind(frame, inside):
            if any(inside[k] & numbers for k, numbers in struck):
                return struck
    return None


def all_steps(frame, inside, hardest):
    """What is in the cells behind all steps, always the first that there is."""
    struck = first_step(frame, inside, hardest)
    while struck is not None:
        for k, numbers in [(k, set(numbers)) for k, numbers in struck]:
            inside[k] = inside[k] - numbers
        struck = first_step(frame, inside, hardest)
    return inside


def is_filled(frame, given, hardest):
    """Whether steps up to the hardest kind fill the square from what is given."""
    inside = [{v} if v else set(range(1, frame.n + 1)) for v in given]
    inside = all_steps(frame, inside, hardest)
    return all(len(numbers) == 1 for numbers in inside) and not is_broken(frame, inside)


def leave_out(frame, numbers, cells, hardest):
    given = list(numbers)
    for k in cells:
        given[k] = 0
        if not is_filled(frame, given, hardest):
            given[k] = numbers[k]
    return given


def numbers_of_seed(frame, drawing):
    """The filling of a seed, cell by cell, or None."""
    return first_filling(frame, [drawing.shuffle(list(range(1, frame.n + 1))) for k in frame.cells])


def make(n, seed, hardest, regions, right, down):
    """What make answers where neither the frame nor the hardest kind is refused."""
    frame = Frame(n, regions, right, down)
    drawing = Drawing(seed)
    numbers = numbers_of_seed(frame, drawing)
    if numbers is None:
        return [-2]
    given = leave_out(frame, numbers, drawing.shuffle(list(frame.cells)), hardest)
    return [len([v for v in given if v])] + given + [0] * (81 - n * n)


def filling(n, seed, regions, right, down):
    """What filling answers where the frame is not refused."""
    numbers = numbers_of_seed(Frame(n, regions, right, down), Drawing(seed))
    return [-2] if numbers is None else [0] + numbers + [0] * (81 - n * n)
