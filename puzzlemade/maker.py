"""Puzzles made from a number."""

from puzzlemade.draws import Draws
from puzzlemade.fillings import first_filling
from puzzlemade.frames import frame_refusal
from puzzlemade.squares import Square
from puzzlemade.steps import finds

WRONG_HARDEST = -22
NO_FILLING = -2
TOLD_CELLS = 81


def make(n, seed, hardest, regions, right, down, given):
    """How many numbers are left given and these, cell by cell, 0 behind the last; or a refusal alone."""
    refusal = frame_refusal(n, regions, right, down, given)
    if refusal:
        return [refusal]
    if hardest < 1 or hardest > 6:
        return [WRONG_HARDEST]
    square = Square(n, regions, right, down)
    draws = Draws(seed)
    filling = first_filling(square, own_orders(draws, n))
    if not filling:
        return [NO_FILLING]
    cells = draws.shuffled(list(range(n * n)))
    numbers = given_numbers(square, leave_out(square, filling, cells, hardest))
    return [n * n - numbers.count(0)] + numbers + [0] * (TOLD_CELLS - n * n)


def own_orders(draws, n):
    numbers = list(range(1, n + 1))
    return [draws.shuffled(numbers) for cell in range(n * n)]


def leave_out(square, filling, cells, hardest):
    """The marks of what stays given, all numbers being in the cells that are left out.

    With the number of a cell left out, steps fill the square if they find that number: from there on
    they do as they did with it given.
    """
    marks = filling
    for cell in cells:
        tried = marks | square.groups[cell]
        if finds(square, tried, cell, hardest):
            marks = tried
    return marks


def given_numbers(square, marks):
    """The number given in each cell, 0 where none is."""
    inside = [marks >> square.n * cell & square.numbers for cell in range(square.n * square.n)]
    return [numbers.bit_length() if square.sizes[numbers] == 1 else 0 for numbers in inside]
