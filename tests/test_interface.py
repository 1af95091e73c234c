"""How make and filling are called, and what they leave as it was."""

import contextlib
import inspect
import io
import random
import sys
import unittest

import puzzlemade
from frames_made import box_regions, chance_signs, no_regions, none
from puzzlemade import maker


class Untouched(list):
    """A list that no call may change, not for a while either."""

    def refuse(self, *told):
        raise AssertionError("a list that was handed in is changed")

    __setitem__ = __delitem__ = __iadd__ = __imul__ = refuse
    append = extend = insert = pop = remove = reverse = sort = clear = refuse


def frames():
    chance = random.Random(11)
    yield 4, 1, 3, box_regions(4), none(4), none(4), [4] * 16
    yield 9, 2, 6, box_regions(9), none(9), none(9), list(range(9)) * 9
    yield 5, 3, 5, no_regions(5), *chance_signs(5, chance, 0.1), none(5)
    yield 4, 4, 4, [0] * 16, none(4), none(4), none(4)
    yield 4, 5, 4, box_regions(4), [3] * 16, [3] * 16, none(4)
    yield 2, 6, 4, [0, 1, 1, 0], none(2), none(2), none(2)
    yield 1, 7, 4, [], [], [], []


def calls():
    """Calls of both functions by turns: each a function, its numbers, and its lists."""
    for n, seed, hardest, *lists in frames():
        yield maker.make, (n, seed, hardest), lists
        yield maker.filling, (n, seed), lists


def answers(told):
    return [call(*numbers, *lists) for call, numbers, lists in told]


class Interface(unittest.TestCase):
    def test_arguments(self):
        names = list(inspect.signature(maker.make).parameters)
        self.assertEqual(names, ["n", "seed", "hardest", "regions", "right", "down", "given"])
        names = list(inspect.signature(maker.filling).parameters)
        self.assertEqual(names, ["n", "seed", "regions", "right", "down", "given"])
        self.assertEqual(puzzlemade.__name__, "puzzlemade")

    def test_lists_are_as_they_were(self):
        for call, numbers, lists in calls():
            before = [list(row) for row in lists]
            call(*numbers, *lists)
            self.assertEqual(lists, before)

    def test_lists_are_not_changed_for_a_while_either(self):
        for call, numbers, lists in calls():
            told = call(*numbers, *lists)
            watched = [Untouched(row) for row in lists]
            self.assertEqual(call(*numbers, *watched), told)

    def test_lists_are_not_handed_back(self):
        for call, numbers, lists in calls():
            answer = call(*numbers, *lists)
            self.assertFalse([row for row in lists if row is answer])

    def test_nothing_is_kept(self):
        firsts = answers(calls())
        self.assertEqual(answers(calls()), firsts)
        self.assertEqual(answers(list(calls())[::-1]), firsts[::-1])
        both = list(calls())
        self.assertEqual(answers(both[::2] + both[1::2]), firsts[::2] + firsts[1::2])
        self.assertEqual(answers(both[1::2] + both[::2]), firsts[1::2] + firsts[::2])
        for answer in firsts:
            answer.append(77)
        self.assertEqual([answer + [77] for answer in answers(calls())], firsts)

    def test_answers_are_lists_of_whole_numbers(self):
        for answer in answers(calls()):
            self.assertIs(type(answer), list)
            self.assertEqual({type(number) for number in answer}, {int})
            self.assertEqual(len(answer), 82 if answer[0] >= 0 else 1)

    def test_nothing_is_printed_or_read(self):
        said = io.StringIO()
        stdin = sys.stdin
        sys.stdin = None
        try:
            with contextlib.redirect_stdout(said), contextlib.redirect_stderr(said):
                answers(calls())
        finally:
            sys.stdin = stdin
        self.assertEqual(said.getvalue(), "")

    def test_nothing_is_imported(self):
        before = sorted(sys.modules)
        answers(calls())
        self.assertEqual(sorted(sys.modules), before)

    def test_calls_do_not_nest_deep(self):
        depth = len(inspect.stack())
        limit = sys.getrecursionlimit()
        sys.setrecursionlimit(depth + 60)
        try:
            answer = maker.make(9, 1, 6, no_regions(9), none(9), none(9), none(9))
            told = maker.filling(9, 1, no_regions(9), none(9), none(9), none(9))
        finally:
            sys.setrecursionlimit(limit)
        self.assertEqual(len(answer), 82)
        self.assertEqual(len(told), 82)


if __name__ == "__main__":
    unittest.main()
