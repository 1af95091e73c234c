"""What holds of the puzzles that make answers, of each by itself and beside what filling answers."""

import random
import unittest

import by_the_words
from frames_made import box_regions, chance_signs, digits, no_regions, none, scattered_regions
from known_answers import KNOWN
from puzzlemade.maker import filling, make


def frames():
    """Frames of several sizes, with and without regions and signs, each with a seed and a hardest kind."""
    chance = random.Random(70)
    for hardest in range(1, 7):
        for n in (2, 3, 4, 5):
            yield n, chance.getrandbits(64), hardest, no_regions(n), none(n), none(n)
            yield n, chance.getrandbits(64), hardest, no_regions(n), *chance_signs(n, chance, 0.1)
            yield n, chance.getrandbits(64), hardest, scattered_regions(n, chance), *chance_signs(n, chance, 0.05)
        yield 4, chance.getrandbits(64), hardest, box_regions(4), *chance_signs(4, chance, 0.1)
        yield 6, chance.getrandbits(64), hardest, box_regions(6), none(6), none(6)
    for n, hardest in ((7, 3), (7, 5), (8, 2)):
        yield n, chance.getrandbits(64), hardest, no_regions(n), *chance_signs(n, chance, 0.1)
    for hardest in (1, 2, 4):
        yield 9, chance.getrandbits(64), hardest, box_regions(9), none(9), none(9)


class WhatHolds(unittest.TestCase):
    @classmethod
    def setUpClass(cls):
        cls.puzzles = []
        for n, seed, hardest, *lists in frames():
            answer = make(n, seed, hardest, *lists, none(n))
            if answer != [-2]:
                told = filling(n, seed, *lists, none(n))
                cls.puzzles.append((by_the_words.Frame(n, *lists), hardest, answer[1:n * n + 1], told[1:n * n + 1]))

    def test_there_are_puzzles_of_all_sorts(self):
        self.assertGreater(len(self.puzzles), 60)
        self.assertEqual({frame.n for frame, *rest in self.puzzles}, {2, 3, 4, 5, 6, 7, 8, 9})
        for sort in ((False, False), (False, True), (True, False), (True, True)):
            kinds = {hardest for frame, hardest, *rest in self.puzzles
                     if (len(frame.units) > 2 * frame.n, len(frame.signs) > 0) == sort}
            self.assertGreater(len(kinds), 3, sort)

    def test_the_one_filling_is_the_seeds(self):
        for frame, hardest, given, numbers in self.puzzles:
            self.assertEqual(by_the_words.fillings_with(frame, given, 2), [numbers])

    def test_filled_by_steps_up_to_the_hardest_kind(self):
        for frame, hardest, given, numbers in self.puzzles:
            self.assertTrue(by_the_words.is_filled(frame, given, hardest))

    def test_filled_with_a_harder_kind_as_well(self):
        for frame, hardest, given, numbers in self.puzzles:
            for harder in range(hardest + 1, 7):
                self.assertTrue(by_the_words.is_filled(frame, given, harder))

    def test_no_longer_filled_with_one_number_less(self):
        for frame, hardest, given, numbers in self.puzzles:
            for k in frame.cells:
                if given[k]:
                    less = given[:k] + [0] + given[k + 1:]
                    self.assertFalse(by_the_words.is_filled(frame, less, hardest))


class WhatHoldsOfLargeSquares(unittest.TestCase):
    def test_the_one_filling_is_the_seeds(self):
        chance = random.Random(71)
        for n in (6, 7, 8, 9):
            for hardest in range(1, 7):
                seed = chance.getrandbits(64)
                lists = [no_regions(n) if hardest % 2 or n == 7 else box_regions(n), none(n), none(n)]
                if hardest > 2:
                    lists[1:] = chance_signs(n, chance, 0.03)
                answer = make(n, seed, hardest, *lists, none(n))
                told = filling(n, seed, *lists, none(n))
                self.assertEqual(answer[0] < 0, told[0] < 0)
                if told[0] == 0:
                    found = by_the_words.fillings_with(by_the_words.Frame(n, *lists), answer[1:n * n + 1], 2)
                    self.assertEqual(found, [told[1:n * n + 1]])

    def test_known_puzzles_have_the_seeds_filling(self):
        for n, seed, hardest, regions, right, down, left in KNOWN:
            lists = (digits(regions, n, 255), digits(right, n, 0), digits(down, n, 0))
            found = by_the_words.fillings_with(by_the_words.Frame(n, *lists), digits(left, n, 0), 2)
            self.assertEqual(len(found), 1)
            self.assertEqual(filling(n, seed, *lists, none(n)), [0] + found[0] + [0] * (81 - n * n))


if __name__ == "__main__":
    unittest.main()
