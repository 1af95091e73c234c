"""The corners that the document names."""

import itertools
import random
import unittest

import by_the_words
from frames_made import box_regions, chance_signs, no_regions, none, signs_of_filling
from puzzlemade.maker import filling, make

ZEROS = [0] * 81


def all_fillings(frame):
    rows = itertools.permutations(range(1, frame.n + 1))
    found = []
    for square in itertools.product(list(rows), repeat=frame.n):
        numbers = [v for row in square for v in row]
        fits = all(len({numbers[k] for k in unit}) == frame.n for unit in frame.units)
        if fits and all(numbers[a] < numbers[b] for a, b in frame.signs):
            found.append(numbers)
    return found


class OneFillingAlone(unittest.TestCase):
    NUMBERS = [1, 2, 3, 2, 3, 1, 3, 1, 2]

    def test_every_seed_comes_to_it(self):
        right, down = signs_of_filling(3, self.NUMBERS)
        frame = by_the_words.Frame(3, no_regions(3), right, down)
        self.assertEqual(all_fillings(frame), [self.NUMBERS])
        for seed in range(20):
            told = filling(3, seed, no_regions(3), right, down, none(3))
            self.assertEqual(told, [0] + self.NUMBERS + [0] * 72)
            for hardest in (1, 2):
                answer = make(3, seed, hardest, no_regions(3), right, down, none(3))
                left = [k for k in range(9) if answer[1 + k]]
                self.assertEqual(answer[0], len(left))
                self.assertEqual([answer[1 + k] for k in left], [self.NUMBERS[k] for k in left])
                self.assertEqual(answer, by_the_words.make(3, seed, hardest, no_regions(3), right, down))


class NothingGiven(unittest.TestCase):
    def test_signs_say_all_once_they_are_steps(self):
        right, down = signs_of_filling(3, OneFillingAlone.NUMBERS)
        for hardest in (3, 4, 5, 6):
            self.assertEqual(make(3, 8, hardest, no_regions(3), right, down, none(3)), [0] + ZEROS)
        for hardest in (1, 2):
            self.assertGreater(make(3, 8, hardest, no_regions(3), right, down, none(3))[0], 0)

    def test_one_sign_in_the_least_square(self):
        for right, down in (([1, 0, 0, 0], none(2)), ([0, 0, 2, 0], none(2)),
                            (none(2), [2, 0, 0, 0]), (none(2), [0, 1, 0, 0])):
            self.assertEqual(make(2, 3, 3, no_regions(2), right, down, none(2)), [0] + ZEROS)
            self.assertEqual(make(2, 3, 2, no_regions(2), right, down, none(2))[0], 1)
            frame = by_the_words.Frame(2, no_regions(2), right, down)
            told = filling(2, 3, no_regions(2), right, down, none(2))
            self.assertEqual([told[1:5]], all_fillings(frame))

    def test_a_square_of_nine_from_its_signs(self):
        numbers = [(r + c) % 9 + 1 for r in range(9) for c in range(9)]
        right, down = signs_of_filling(9, numbers)
        self.assertEqual(make(9, 1, 6, no_regions(9), right, down, none(9)), [0] + ZEROS)
        self.assertEqual(filling(9, 1, no_regions(9), right, down, none(9)), [0] + numbers)


class LeastSquare(unittest.TestCase):
    def test_all_frames(self):
        regions = ([255] * 4, [0, 0, 1, 1], [1, 1, 0, 0], [0, 1, 0, 1], [1, 0, 1, 0], [0, 1, 1, 0], [1, 0, 0, 1])
        for own in regions:
            for signs in itertools.product(range(3), repeat=4):
                right = [signs[0], 0, signs[1], 0]
                down = [signs[2], signs[3], 0, 0]
                for seed, hardest in ((0, 1), (1, 2), (2, 3), (3, 6)):
                    told = by_the_words.make(2, seed, hardest, own, right, down)
                    self.assertEqual(make(2, seed, hardest, own, right, down, none(2)), told)
                    told = by_the_words.filling(2, seed, own, right, down)
                    self.assertEqual(filling(2, seed, own, right, down, none(2)), told)

    def test_the_first_draw_says_which_of_the_two_fillings_it_is(self):
        # What the first draw from a seed of 0 comes to is 1442695040888963407 / 2 ** 33, rounded down.
        self.assertEqual(1442695040888963407 // 2 ** 33 % 2, 1)
        self.assertEqual(filling(2, 0, no_regions(2), none(2), none(2), none(2)), [0, 1, 2, 2, 1] + [0] * 77)
        for seed in range(20):
            drawn = (seed * 6364136223846793005 + 1442695040888963407) % 2 ** 64 // 2 ** 33 % 2
            numbers = [1, 2, 2, 1] if drawn else [2, 1, 1, 2]
            self.assertEqual(filling(2, seed, no_regions(2), none(2), none(2), none(2)), [0] + numbers + [0] * 77)

    def test_one_number_is_left(self):
        for seed in range(10):
            answer = make(2, seed, 1, no_regions(2), none(2), none(2), none(2))
            self.assertEqual(answer[0], 1)
            self.assertEqual(answer[5:], [0] * 77)


class HardestOfOne(unittest.TestCase):
    def test_signs_are_no_steps_there(self):
        right, down = signs_of_filling(4, [1, 2, 3, 4, 2, 1, 4, 3, 3, 4, 1, 2, 4, 3, 2, 1])
        for seed in range(5):
            answer = make(4, seed, 1, no_regions(4), right, down, none(4))
            self.assertEqual(answer, by_the_words.make(4, seed, 1, no_regions(4), right, down))
            self.assertGreater(answer[0], make(4, seed, 3, no_regions(4), right, down, none(4))[0])

    def test_more_numbers_stay(self):
        for regions in (no_regions(9), box_regions(9)):
            left = [0, 0]
            for seed in range(3):
                for place, hardest in enumerate((1, 3)):
                    left[place] += make(9, seed, hardest, regions, none(9), none(9), none(9))[0]
            self.assertGreater(left[0], left[1])


class SeedOfZero(unittest.TestCase):
    def test_seed_of_zero(self):
        chance = random.Random(3)
        for n in (2, 3, 4, 5):
            for hardest in range(1, 7):
                right, down = chance_signs(n, chance, 0.05)
                told = by_the_words.make(n, 0, hardest, no_regions(n), right, down)
                self.assertEqual(make(n, 0, hardest, no_regions(n), right, down, none(n)), told)
                told = by_the_words.filling(n, 0, no_regions(n), right, down)
                self.assertEqual(filling(n, 0, no_regions(n), right, down, none(n)), told)


class FarAstray(unittest.TestCase):
    """Regions for which a walk through the cells by their own orders would hardly come to an end."""

    def check_none(self, n, regions):
        for seed in (0, 1):
            self.assertEqual(make(n, seed, 4, regions, none(n), none(n), none(n)), [-2])
            self.assertEqual(filling(n, seed, regions, none(n), none(n), none(n)), [-2])

    def check_filling(self, n, seed, regions, right, down):
        told = filling(n, seed, regions, right, down, none(n))
        self.assertEqual(told[0], 0)
        frame = by_the_words.Frame(n, regions, right, down)
        self.assertTrue(by_the_words.is_filling(frame, told[1:n * n + 1]))
        answer = make(n, seed, 4, regions, right, down, none(n))
        self.assertEqual(by_the_words.fillings_with(frame, answer[1:n * n + 1], 2), [told[1:n * n + 1]])

    def test_rows_that_are_moved_along_have_no_filling(self):
        for n in (5, 7, 8, 9):
            for moved in range(1, n):
                self.check_none(n, [(k + moved) % (n * n) // n for k in range(n * n)])

    def test_slants_of_an_even_square_have_no_filling(self):
        for n in (2, 4, 6, 8):
            self.check_none(n, [(r + c) % n for r in range(n) for c in range(n)])

    def test_slants_of_an_odd_square(self):
        for n in (3, 5, 7, 9):
            regions = [(r + c) % n for r in range(n) for c in range(n)]
            for seed in (0, 1):
                self.check_filling(n, seed, regions, none(n), none(n))

    def test_regions_that_hang_together_and_have_no_filling(self):
        for regions in ("000000000111111222151312242553333442553734422553736444557766664777668888776688888",
                        "000000033001111135441441335444411355422223357226223557666828857688888857666677777"):
            self.check_none(9, [int(region) for region in regions])

    def test_boxes_and_few_signs(self):
        right = none(9)
        down = none(9)
        right[0] = 1
        down[40] = 2
        for seed in range(3):
            self.check_filling(9, seed, box_regions(9), right, down)


if __name__ == "__main__":
    unittest.main()
