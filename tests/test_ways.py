"""The first filling of a frame, by each of the ways in which it is found."""

import random
import unittest
from unittest import mock

import by_the_words
from frames_made import box_regions, chance_signs, no_regions, none, scattered_regions
from puzzlemade import partings, searches
from puzzlemade.draws import Draws
from puzzlemade.fillings import first_by_searches, first_filling
from puzzlemade.maker import own_orders
from puzzlemade.partings import all_partings, can_be_numbered, first_of_partings
from puzzlemade.patterns import patterns_of
from puzzlemade.squares import Square


def numbers_of(square, marks):
    if not marks:
        return None
    return [(marks >> square.n * cell & square.numbers).bit_length() for cell in range(square.n * square.n)]


def frames():
    chance = random.Random(31)
    for time in range(120):
        n = chance.choice((2, 3, 4, 5))
        regions = scattered_regions(n, chance) if time % 3 else no_regions(n)
        if n == 4 and time % 2:
            regions = box_regions(4)
        right, down = chance_signs(n, chance, chance.choice((0, 0.05, 0.2)))
        yield n, chance.getrandbits(64), regions, right, down


class EachWay(unittest.TestCase):
    @classmethod
    def setUpClass(cls):
        cls.told = []
        for n, seed, *lists in frames():
            orders = own_orders(Draws(seed), n)
            numbers = by_the_words.first_filling(by_the_words.Frame(n, *lists), orders)
            cls.told.append((Square(n, *lists), orders, numbers))

    def check(self, way):
        for square, orders, numbers in self.told:
            self.assertEqual(numbers_of(square, way(square, orders)), numbers)

    def test_there_are_frames_with_fillings_and_without(self):
        without = [numbers for square, orders, numbers in self.told if numbers is None]
        self.assertGreater(len(without), 10)
        self.assertGreater(len(self.told) - len(without), 10)

    def test_as_it_is_called(self):
        self.check(first_filling)

    def test_by_searches_with_patterns(self):
        self.check(lambda square, orders: first_by_searches(square, patterns_of(square), orders))

    def test_by_searches_without_patterns(self):
        self.check(lambda square, orders: first_by_searches(square, [], orders))

    def test_by_searches_that_are_broken_off_soon(self):
        with mock.patch.object(searches, "SLICE", 1):
            self.check(lambda square, orders: first_by_searches(square, patterns_of(square), orders))
            self.check(lambda square, orders: first_by_searches(square, [], orders))

    def test_large_squares_by_partings_and_by_searches(self):
        chance = random.Random(32)
        found = 0
        for time in range(8):
            regions = scattered_regions(9, chance)
            square = Square(9, regions, *chance_signs(9, chance, 0.1 if time % 2 else 0))
            orders = own_orders(Draws(time), 9)
            patterns = patterns_of(square)
            by_partings = first_of_partings(square, all_partings(square, patterns[0]), orders)
            self.assertEqual(first_filling(square, orders), by_partings)
            if time % 2 == 0:
                self.assertEqual(first_by_searches(square, patterns, orders), by_partings)
            found += by_partings != 0
        self.assertGreater(found, 2)


class Partings(unittest.TestCase):
    def test_too_many(self):
        square = Square(4, box_regions(4), none(4), none(4))
        patterns = patterns_of(square)[0]
        self.assertEqual(len(patterns), 16)
        self.assertEqual(len(all_partings(square, patterns)), 288 // 24)
        for limit, most in (("FEW_PATTERNS", 15), ("MOST_STATES", 20), ("MOST_PARTINGS", 3)):
            with mock.patch.object(partings, limit, most):
                self.assertIsNone(all_partings(square, patterns))

    def test_numbers_of_parts(self):
        self.assertTrue(can_be_numbered([0, 0, 0], []))
        self.assertTrue(can_be_numbered([0, 0, 0], [(0, 1), (1, 2)]))
        self.assertTrue(can_be_numbered([0, 2, 0], [(0, 1), (1, 2)]))
        self.assertFalse(can_be_numbered([0, 3, 0], [(0, 1), (1, 2)]))
        self.assertFalse(can_be_numbered([0, 0, 0], [(0, 1), (1, 2), (2, 0)]))
        self.assertFalse(can_be_numbered([2, 2, 0], []))
        self.assertFalse(can_be_numbered([0, 0, 0, 3], [(0, 3), (1, 3), (2, 3)]))


class Turns(unittest.TestCase):
    def test_most_are_short(self):
        turns = searches.Turns()
        self.assertEqual([turns.following() for turn in range(15)], [1, 1, 2, 1, 1, 2, 4, 1, 1, 2, 1, 1, 2, 4, 8])


if __name__ == "__main__":
    unittest.main()
