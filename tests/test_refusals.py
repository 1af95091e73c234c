"""The refusals of both calls: each by itself, and of several the one that is told first."""

import unittest

from frames_made import box_regions, no_regions, none
from puzzlemade.maker import filling, make


def frame_of_four():
    return {"n": 4, "seed": 1, "hardest": 4, "regions": box_regions(4), "right": none(4), "down": none(4),
            "given": none(4)}


def with_number(numbers, place, number):
    return numbers[:place] + [number] + numbers[place + 1:]


WRONG_REGIONS = {"regions": with_number(box_regions(4), 0, 1)}
WRONG_RIGHT = {"right": with_number(none(4), 0, 3)}
WRONG_DOWN = {"down": with_number(none(4), 0, 3)}
WRONG_GIVEN = {"given": with_number(none(4), 15, 5)}
WRONG_HARDEST = {"hardest": 7}
# Around the four cells in the corner each number would be less than the next.
NO_FILLING = {"right": [1, 0, 0, 0, 2] + [0] * 11, "down": [2, 1] + [0] * 14}


def changed_frame(changes):
    frame = frame_of_four()
    for change in changes:
        frame.update(change)
    return frame


def filling_of(frame):
    return filling(**{name: told for name, told in frame.items() if name != "hardest"})


class Refusals(unittest.TestCase):
    def check_answer(self, answer, told):
        self.assertEqual(answer, [told])
        self.assertIs(answer.__class__, list)
        self.assertIs(answer[0].__class__, int)

    def check_make(self, told, *changes):
        self.check_answer(make(**changed_frame(changes)), told)

    def check_filling(self, told, *changes):
        self.check_answer(filling_of(changed_frame(changes)), told)

    def check(self, told, *changes):
        self.check_make(told, *changes)
        self.check_filling(told, *changes)

    def check_made(self, **changes):
        answer = make(**changed_frame([changes]))
        self.assertEqual(len(answer), 82)
        self.assertGreaterEqual(answer[0], 0)
        return answer

    def check_filled(self, **changes):
        answer = filling_of(changed_frame([changes]))
        self.assertEqual(len(answer), 82)
        self.assertEqual(answer[0], 0)
        return answer

    def check_not_refused(self, **changes):
        self.check_made(**changes)
        self.check_filled(**changes)

    def test_the_frame_itself_is_not_refused(self):
        self.check_not_refused()

    def test_size(self):
        for n in (0, 1, 10, 11, 81, 255, 256, 4294967295):
            for seed in (0, 5, 2 ** 64 - 1):
                for hardest in (0, 1, 4, 7):
                    self.check_answer(make(n, seed, hardest, [], [], [], []), -22)
                self.check_answer(filling(n, seed, [], [], [], []), -22)

    def test_sizes_at_both_ends_are_not_refused(self):
        for n in (2, 9):
            self.assertEqual(len(make(n, 0, 1, no_regions(n), none(n), none(n), none(n))), 82)
            self.assertEqual(len(filling(n, 0, no_regions(n), none(n), none(n), none(n))), 82)

    def test_regions(self):
        boxes = box_regions(4)
        for regions in (with_number(boxes, 0, 1), with_number(boxes, 0, 4), with_number(boxes, 0, 255),
                        with_number(boxes, 15, 255), with_number(no_regions(4), 15, 0),
                        with_number(no_regions(4), 0, 0), with_number(no_regions(4), 7, 254),
                        [0] * 16, [254] * 16, [region + 1 for region in boxes],
                        [0] * 5 + [1] * 3 + [2] * 4 + [3] * 4, [4 if region == 3 else region for region in boxes]):
            self.check(-71, {"regions": regions})

    def test_regions_need_not_hang_together(self):
        self.check_not_refused(regions=[0, 0, 1, 1, 1, 1, 0, 0, 2, 2, 3, 3, 3, 3, 2, 2])

    def test_signs_above_two(self):
        for sign in (3, 4, 254, 255):
            for place in (0, 5, 10):
                self.check(-72, {"right": with_number(none(4), place, sign)})
                self.check(-72, {"down": with_number(none(4), place, sign)})

    def test_signs_where_none_may_stand(self):
        for sign in (1, 2, 3, 255):
            for place in (3, 7, 11, 15):
                self.check(-72, {"right": with_number(none(4), place, sign)})
            for place in (12, 13, 14, 15):
                self.check(-72, {"down": with_number(none(4), place, sign)})

    def test_signs_beside_the_last_column_and_row(self):
        self.check_not_refused(right=with_number(none(4), 14, 1))
        self.check_not_refused(right=with_number(none(4), 2, 2))
        self.check_not_refused(down=with_number(none(4), 11, 1))
        self.check_not_refused(down=with_number(none(4), 8, 2))

    def test_given_above_the_size(self):
        for number in (5, 9, 10, 255):
            for place in (0, 15):
                self.check(-73, {"given": with_number(none(4), place, number)})

    def test_given_is_looked_at_for_this_alone(self):
        made = self.check_made()
        filled = self.check_filled()
        for given in ([1] * 16, [4] * 16, list(range(1, 5)) * 4, with_number(none(4), 3, 4)):
            self.assertEqual(self.check_made(given=given), made)
            self.assertEqual(self.check_filled(given=given), filled)

    def test_hardest(self):
        for hardest in (0, 7, 8, 255, 256, 4294967295):
            self.check_make(-22, {"hardest": hardest})
        for hardest in range(1, 7):
            self.check_made(hardest=hardest)

    def test_no_filling(self):
        self.check(-2, NO_FILLING)
        self.check(-2, NO_FILLING, {"regions": no_regions(4)})
        # A row has room for three signs in a row, not for a fourth down from its last cell.
        self.check(-2, {"right": [1, 1, 1] + [0] * 13, "down": with_number(none(4), 3, 1)})
        for lists in (([0, 1, 1, 0], none(2), none(2)), (no_regions(2), [1, 0, 1, 0], none(2))):
            self.check_answer(make(2, 0, 1, *lists, none(2)), -2)
            self.check_answer(filling(2, 0, *lists, none(2)), -2)

    def test_no_filling_whatever_the_hardest_kind(self):
        for hardest in range(1, 7):
            self.check_make(-2, NO_FILLING, {"hardest": hardest})

    def test_the_refusal_told_first_is_answered(self):
        # The last of each kind stands first here, so that each later change leaves those before it due.
        due = [NO_FILLING]
        self.check(-2, *due)
        due.append(WRONG_HARDEST)
        self.check_make(-22, *due)
        due.append(WRONG_GIVEN)
        self.check(-73, *due)
        for wrong in (WRONG_RIGHT, WRONG_DOWN, {"right": with_number(none(4), 3, 1)}):
            self.check(-72, *due, wrong)
            self.check(-71, *due, wrong, WRONG_REGIONS)

    def test_each_two_that_are_due(self):
        changes = ((-71, WRONG_REGIONS), (-72, WRONG_RIGHT), (-72, WRONG_DOWN), (-73, WRONG_GIVEN))
        for i, (told, change) in enumerate(changes):
            for later, other in changes[i:]:
                self.check(told, change, other)
            self.check_make(told, change, WRONG_HARDEST)
        for told, change in ((-71, WRONG_REGIONS), (-73, WRONG_GIVEN)):
            self.check(told, NO_FILLING, change)
        self.check_make(-22, NO_FILLING, WRONG_HARDEST)


if __name__ == "__main__":
    unittest.main()
