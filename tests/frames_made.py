"""Frames for the tests, made from a source of chance that is handed in with a fixed start."""

BOXES = {4: (2, 2), 6: (2, 3), 8: (2, 4), 9: (3, 3)}


def none(n):
    return [0] * (n * n)


def no_regions(n):
    return [255] * (n * n)


def box_regions(n):
    high, wide = BOXES[n]
    return [r // high * (n // wide) + c // wide for r in range(n) for c in range(n)]


def scattered_regions(n, chance):
    regions = [g for g in range(n) for place in range(n)]
    chance.shuffle(regions)
    return regions


def chance_signs(n, chance, share):
    right = none(n)
    down = none(n)
    for k in range(n * n):
        if k % n < n - 1 and chance.random() < share:
            right[k] = chance.choice((1, 2))
        if k // n < n - 1 and chance.random() < share:
            down[k] = chance.choice((1, 2))
    return right, down


def signs_of_filling(n, numbers):
    """All the signs that hold in a filling."""
    right = none(n)
    down = none(n)
    for k in range(n * n):
        if k % n < n - 1:
            right[k] = 1 if numbers[k] < numbers[k + 1] else 2
        if k // n < n - 1:
            down[k] = 1 if numbers[k] < numbers[k + n] else 2
    return right, down


def digits(text, n, otherwise):
    return [int(sign) for sign in text] if text else [otherwise] * (n * n)
