"""What make answers where nothing is refused, held against the words of the document."""

import random
import unittest

import by_the_words
from frames_made import box_regions, chance_signs, digits, no_regions, none, scattered_regions
from known_answers import KNOWN
from puzzlemade.maker import make


class AgainstTheWords(unittest.TestCase):
    def hold(self, n, seed, hardest, regions, right, down):
        answer = make(n, seed, hardest, regions, right, down, none(n))
        told = (n, seed, hardest, regions, right, down)
        self.assertEqual(answer, by_the_words.make(*told), told)
        return answer

    def hold_for_chances(self, n, hardest, regions_for, share, times, start):
        chance = random.Random(start)
        made = 0
        for time in range(times):
            right, down = chance_signs(n, chance, share)
            answer = self.hold(n, chance.getrandbits(64), hardest, regions_for(n, chance), right, down)
            made += answer[0] >= 0
        return made

    def test_without_regions_and_signs(self):
        for hardest in range(1, 7):
            for n in (2, 3, 4, 5):
                made = self.hold_for_chances(n, hardest, lambda n, chance: no_regions(n), 0, 5, hardest)
                self.assertEqual(made, 5)

    def test_with_signs(self):
        for hardest in range(1, 7):
            for n in (2, 3, 4, 5):
                for share in (0.1, 0.3):
                    made = self.hold_for_chances(n, hardest, lambda n, chance: no_regions(n), share, 8, 10 + hardest)
                    self.assertGreater(made, 0)

    def test_with_boxes(self):
        for hardest in range(1, 7):
            made = self.hold_for_chances(4, hardest, lambda n, chance: box_regions(n), 0, 5, 20 + hardest)
            self.assertEqual(made, 5)
            made = self.hold_for_chances(4, hardest, lambda n, chance: box_regions(n), 0.2, 12, 30 + hardest)
            self.assertGreater(made, 0)

    def test_with_scattered_regions(self):
        for hardest in range(1, 7):
            made = 0
            for n in (3, 4, 5):
                made += self.hold_for_chances(n, hardest, scattered_regions, 0, 10, 40 + hardest)
                made += self.hold_for_chances(n, hardest, scattered_regions, 0.1, 10, 50 + hardest)
            self.assertGreater(made, 0)

    def test_six_by_six(self):
        for hardest in range(1, 7):
            self.hold(6, 100 + hardest, hardest, box_regions(6), none(6), none(6))
            self.hold(6, 200 + hardest, hardest, no_regions(6), none(6), none(6))

    def test_nine_by_nine(self):
        self.hold(9, 5, 2, box_regions(9), none(9), none(9))

    def test_regions_that_are_the_rows_or_the_columns(self):
        for n in (2, 3, 4, 5):
            for hardest in range(1, 7):
                self.hold(n, 9, hardest, [r for r in range(n) for c in range(n)], none(n), none(n))
                self.hold(n, 9, hardest, [c for r in range(n) for c in range(n)], none(n), none(n))

    def test_seeds_at_both_ends(self):
        for seed in (0, 1, 2 ** 33 - 1, 2 ** 63, 2 ** 64 - 1):
            for hardest in (1, 6):
                self.hold(4, seed, hardest, box_regions(4), none(4), none(4))
                self.hold(5, seed, hardest, no_regions(5), none(5), none(5))


class KnownAnswers(unittest.TestCase):
    def test_known_answers(self):
        hardest_kinds = set()
        for n, seed, hardest, regions, right, down, left in KNOWN:
            frame = (digits(regions, n, 255), digits(right, n, 0), digits(down, n, 0))
            numbers = digits(left, n, 0)
            told = [n * n - numbers.count(0)] + numbers + [0] * (81 - n * n)
            self.assertEqual(make(n, seed, hardest, *frame, none(n)), told, (n, seed, hardest))
            hardest_kinds.add(hardest)
        self.assertEqual(sorted(hardest_kinds), [1, 2, 3, 4, 5, 6])


if __name__ == "__main__":
    unittest.main()
