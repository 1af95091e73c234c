"""The calls: puzzles made from a number, and the fillings that they are made from."""

from puzzlemade.draws import Draws
from puzzlemade.fillings import first_filling
from puzzlemade.frames import frame_refusal
from puzzlemade.squares import Square
from puzzlemade.steps import finds

WRONG_HARDEST = -22
NO_FILLING = -2
TOLD_CELLS = 81


def make(n, seed, hardest, regions, right, down, given):
    """How many numbers are left given and these, cell by cell, 0 behind the last; or a refusal alone."""
    refusal = frame_refusal(n, regions, right, down, given)
    if refusal:
        return [refusal]
    if hardest < 1 or hardest > 6:
        return [WRONG_HARDEST]
    square = Square(n, regions, right, down)
    draws = Draws(seed)
    marks = marks_of_seed(square, draws)
    if not marks:
        return [NO_FILLING]
    cells = draws.shuffled(list(range(n * n)))
    numbers = numbers_in_cells(square, leave_out(square, marks, cells, hardest))
    return [n * n - numbers.count(0)] + told_cells(numbers)


def filling(n, seed, regions, right, down, given):
    """0 and the filling of the seed, cell by cell, 0 behind the last; or a refusal alone."""
    refusal = frame_refusal(n, regions, right, down, given)
    if refusal:
        return [refusal]
    square = Square(n, regions, right, down)
    marks = marks_of_seed(square, Draws(seed))
    if not marks:
        return [NO_FILLING]
    return [0] + told_cells(numbers_in_cells(square, marks))


def marks_of_seed(square, draws):
    """The marks of the filling of a seed, from which nothing is drawn yet; 0 if there is none."""
    return first_filling(square, own_orders(draws, square.n))


def own_orders(draws, n):
    numbers = list(range(1, n + 1))
    return [draws.shuffled(numbers) for cell in range(n * n)]


def leave_out(square, marks, cells, hardest):
    """The marks of what stays given of a filling, all numbers being in the cells that are left out.

    With the number of a cell left out, steps fill the square if they find that number: from there on
    they do as they did with it given.
    """
    for cell in cells:
        tried = marks | square.groups[cell]
        if finds(square, tried, cell, hardest):
            marks = tried
    return marks


def numbers_in_cells(square, marks):
    """The number of each cell with one mark alone, 0 for the others."""
    inside = [marks >> square.n * cell & square.numbers for cell in range(square.n * square.n)]
    return [numbers.bit_length() if square.sizes[numbers] == 1 else 0 for numbers in inside]


def told_cells(numbers):
    return numbers + [0] * (TOLD_CELLS - len(numbers))
