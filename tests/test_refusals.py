"""The refusals of make: each by itself, and of several the one that is told first."""

import unittest

from frames_made import box_regions, no_regions, none
from puzzlemade.maker import make


def frame_of_four():
    return {"n": 4, "seed": 1, "hardest": 4, "regions": box_regions(4), "right": none(4), "down": none(4),
            "given": none(4)}


def with_number(numbers, place, number):
    return numbers[:place] + [number] + numbers[place + 1:]


WRONG_REGIONS = {"regions": with_number(box_regions(4), 0, 1)}
WRONG_RIGHT = {"right": with_number(none(4), 0, 3)}
WRONG_DOWN = {"down": with_number(none(4), 0, 3)}
WRONG_GIVEN = {"given": with_number(none(4), 15, 5)}
WRONG_HARDEST = {"hardest": 7}
# Around the four cells in the corner each number would be less than the next.
NO_FILLING = {"right": [1, 0, 0, 0, 2] + [0] * 11, "down": [2, 1] + [0] * 14}


class Refusals(unittest.TestCase):
    def check(self, told, *changes):
        frame = frame_of_four()
        for change in changes:
            frame.update(change)
        answer = make(**frame)
        self.assertEqual(answer, [told])
        self.assertIs(answer.__class__, list)

    def check_made(self, **changes):
        answer = make(**dict(frame_of_four(), **changes))
        self.assertEqual(len(answer), 82)
        self.assertGreaterEqual(answer[0], 0)
        return answer

    def test_the_frame_itself_is_not_refused(self):
        self.check_made()

    def test_size(self):
        for n in (0, 1, 10, 11, 81, 255, 256, 4294967295):
            self.assertEqual(make(n, 0, 4, [], [], [], []), [-22])
            self.assertEqual(make(n, 5, 0, [], [], [], []), [-22])

    def test_sizes_at_both_ends_are_not_refused(self):
        for n in (2, 9):
            answer = make(n, 0, 1, no_regions(n), none(n), none(n), none(n))
            self.assertEqual(len(answer), 82)

    def test_regions(self):
        boxes = box_regions(4)
        for regions in (with_number(boxes, 0, 1), with_number(boxes, 0, 4), with_number(boxes, 0, 255),
                        with_number(boxes, 15, 255), with_number(no_regions(4), 15, 0),
                        with_number(no_regions(4), 0, 0), with_number(no_regions(4), 7, 254),
                        [0] * 16, [254] * 16, [region + 1 for region in boxes],
                        [0] * 5 + [1] * 3 + [2] * 4 + [3] * 4, [4 if region == 3 else region for region in boxes]):
            self.check(-71, {"regions": regions})

    def test_regions_need_not_hang_together(self):
        self.check_made(regions=[0, 0, 1, 1, 1, 1, 0, 0, 2, 2, 3, 3, 3, 3, 2, 2])

    def test_signs_above_two(self):
        for sign in (3, 4, 254, 255):
            for place in (0, 5, 10):
                self.check(-72, {"right": with_number(none(4), place, sign)})
                self.check(-72, {"down": with_number(none(4), place, sign)})

    def test_signs_where_none_may_stand(self):
        for sign in (1, 2, 3, 255):
            for place in (3, 7, 11, 15):
                self.check(-72, {"right": with_number(none(4), place, sign)})
            for place in (12, 13, 14, 15):
                self.check(-72, {"down": with_number(none(4), place, sign)})

    def test_signs_beside_the_last_column_and_row(self):
        self.check_made(right=with_number(none(4), 14, 1))
        self.check_made(right=with_number(none(4), 2, 2))
        self.check_made(down=with_number(none(4), 11, 1))
        self.check_made(down=with_number(none(4), 8, 2))

    def test_given_above_the_size(self):
        for number in (5, 9, 10, 255):
            for place in (0, 15):
                self.check(-73, {"given": with_number(none(4), place, number)})

    def test_given_is_looked_at_for_this_alone(self):
        plain = self.check_made()
        for given in ([1] * 16, [4] * 16, list(range(1, 5)) * 4, with_number(none(4), 3, 4)):
            self.assertEqual(self.check_made(given=given), plain)

    def test_hardest(self):
        for hardest in (0, 7, 8, 255, 256, 4294967295):
            self.check(-22, {"hardest": hardest})
        for hardest in range(1, 7):
            self.check_made(hardest=hardest)

    def test_no_filling(self):
        self.check(-2, NO_FILLING)
        self.check(-2, NO_FILLING, {"regions": no_regions(4)})
        # A row has room for three signs in a row, not for a fourth down from its last cell.
        self.check(-2, {"right": [1, 1, 1] + [0] * 13, "down": with_number(none(4), 3, 1)})
        self.assertEqual(make(2, 0, 1, [0, 1, 1, 0], none(2), none(2), none(2)), [-2])
        self.assertEqual(make(2, 0, 3, no_regions(2), [1, 0, 1, 0], none(2), none(2)), [-2])

    def test_no_filling_whatever_the_hardest_kind(self):
        for hardest in range(1, 7):
            self.check(-2, NO_FILLING, {"hardest": hardest})

    def test_the_refusal_told_first_is_answered(self):
        # The last of each kind stands first here, so that each later change leaves those before it due.
        due = []
        for told, change in ((-2, NO_FILLING), (-22, WRONG_HARDEST), (-73, WRONG_GIVEN)):
            due.append(change)
            self.check(told, *due)
        for wrong in (WRONG_RIGHT, WRONG_DOWN, {"right": with_number(none(4), 3, 1)}):
            self.check(-72, *due, wrong)
            self.check(-71, *due, wrong, WRONG_REGIONS)

    def test_each_two_that_are_due(self):
        changes = ((-71, WRONG_REGIONS), (-72, WRONG_RIGHT), (-72, WRONG_DOWN), (-73, WRONG_GIVEN),
                   (-22, WRONG_HARDEST))
        for i, (told, change) in enumerate(changes):
            for later, other in changes[i:]:
                self.check(told, change, other)
        for told, change in ((-71, WRONG_REGIONS), (-73, WRONG_GIVEN), (-22, WRONG_HARDEST)):
            self.check(told, NO_FILLING, change)


if __name__ == "__main__":
    unittest.main()
