"""What filling answers where nothing is refused, held against the words of the document."""

import random
import unittest

import by_the_words
from frames_made import box_regions, chance_signs, no_regions, none, scattered_regions, signs_of_filling
from puzzlemade.maker import filling


class AgainstTheWords(unittest.TestCase):
    def hold(self, n, seed, regions, right, down):
        answer = filling(n, seed, regions, right, down, none(n))
        told = (n, seed, regions, right, down)
        self.assertEqual(answer, by_the_words.filling(*told), told)
        return answer

    def hold_for_chances(self, n, regions_for, share, times, start):
        chance = random.Random(start)
        filled = 0
        for time in range(times):
            right, down = chance_signs(n, chance, share)
            answer = self.hold(n, chance.getrandbits(64), regions_for(n, chance), right, down)
            filled += answer[0] == 0
        return filled

    def test_without_regions_and_signs(self):
        for n in (2, 3, 4, 5, 6, 7):
            self.assertEqual(self.hold_for_chances(n, lambda n, chance: no_regions(n), 0, 20, n), 20)

    def test_with_signs(self):
        for n in (2, 3, 4, 5):
            for share in (0.05, 0.1, 0.3):
                filled = self.hold_for_chances(n, lambda n, chance: no_regions(n), share, 40, 10 + n)
                self.assertGreater(filled, 0)

    def test_with_boxes(self):
        for n in (4, 6):
            self.assertEqual(self.hold_for_chances(n, lambda n, chance: box_regions(n), 0, 20, 20 + n), 20)
        self.assertGreater(self.hold_for_chances(4, lambda n, chance: box_regions(n), 0.1, 40, 30), 10)

    def test_with_scattered_regions(self):
        filled = 0
        for n in (2, 3, 4, 5):
            filled += self.hold_for_chances(n, scattered_regions, 0, 40, 40 + n)
            filled += self.hold_for_chances(n, scattered_regions, 0.05, 40, 50 + n)
        self.assertGreater(filled, 20)

    def test_nine_by_nine(self):
        for seed in (5, 6):
            self.hold(9, seed, box_regions(9), none(9), none(9))

    def test_seeds_at_both_ends(self):
        for seed in (0, 1, 2 ** 33 - 1, 2 ** 33, 2 ** 63, 2 ** 64 - 1):
            self.hold(4, seed, box_regions(4), none(4), none(4))
            self.hold(6, seed, no_regions(6), none(6), none(6))


class FirstOfAll(unittest.TestCase):
    """The first of all fillings, taken from a list of them all."""

    def test_the_first_by_the_own_orders(self):
        chance = random.Random(60)
        for time in range(40):
            n = chance.choice((2, 3, 4))
            lists = (no_regions(n), *chance_signs(n, chance, 0.1))
            frame = by_the_words.Frame(n, *lists)
            found = by_the_words.fillings_with(frame, none(n), 10000)
            seed = chance.getrandbits(64)
            drawing = by_the_words.Drawing(seed)
            orders = [drawing.shuffle(list(range(1, n + 1))) for k in frame.cells]
            answer = filling(n, seed, *lists, none(n))
            if found:
                first = min(found, key=lambda numbers: [orders[k].index(v) for k, v in enumerate(numbers)])
                self.assertEqual(answer, [0] + first + [0] * (81 - n * n))
            else:
                self.assertEqual(answer, [-2])


class LargeSquares(unittest.TestCase):
    def test_it_is_a_filling_and_zeros_stand_behind_it(self):
        chance = random.Random(61)
        for n in (6, 7, 8, 9):
            for time in range(6):
                regions = no_regions(n) if time % 2 or n == 7 else box_regions(n)
                held = filling(n, time, regions, none(n), none(n), none(n))[1:n * n + 1]
                right, down = signs_of_filling(n, held)
                right = [sign if chance.random() < 0.1 else 0 for sign in right]
                down = [sign if chance.random() < 0.1 else 0 for sign in down]
                answer = filling(n, chance.getrandbits(64), regions, right, down, none(n))
                self.assertEqual(len(answer), 82)
                self.assertEqual(answer[0], 0)
                frame = by_the_words.Frame(n, regions, right, down)
                self.assertTrue(by_the_words.is_filling(frame, answer[1:n * n + 1]))
                self.assertEqual(answer[n * n + 1:], [0] * (81 - n * n))


if __name__ == "__main__":
    unittest.main()
