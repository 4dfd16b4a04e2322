"""Which pairs of kinds alike tells."""

import itertools
import random
import unittest

from flaglockerdesk.locker import alike
from tests import drawn, model
from tests.cases import Calls
from tests.model import TELLS_ALL, number
from tests.texts import FULL, GREATEST, LARGEST, LOOK, NO_LOCKERS, grown, signs, text

SAME_LIGHT = number("0023456789abcdef")  # colours 0 and 1 are one class, every other its own


class Alike(Calls):
    def alike(self, pairs, light, side, *lines):
        told = [number for pair in pairs for number in pair]
        self.answers([len(pairs), *told], alike, light, side, text("locker L", *lines))

    def test_one_kind_alone(self):
        for light in (0, TELLS_ALL, GREATEST):
            for side in (0, 1, 2):
                self.alike([], light, side, "sign A 1 square " + LOOK)

    def test_no_pair(self):
        for side in (0, 1, 2):
            self.alike([], TELLS_ALL, side, *FULL[1:])
            self.answers([0], alike, TELLS_ALL, 0, LARGEST)

    def test_one_pair(self):
        lines = ("sign A 1 long 0002000000000000", "sign B 1 long 0012000000000000", "sign C 1 long 0022000000000000")
        for side in (0, 1, 2):
            self.alike([(0, 1)], SAME_LIGHT, side, *lines)
            self.alike([(1, 2)], SAME_LIGHT, side, lines[2], *lines[:2])
            self.alike([(0, 2)], SAME_LIGHT, side, lines[0], lines[2], lines[1])
            self.alike([], TELLS_ALL, side, *lines)

    def test_each_cell_and_class(self):
        for cell in range(16):
            other = LOOK[:cell] + LOOK[15 - cell] + LOOK[cell + 1:]
            lines = ("sign A 1 tails " + LOOK, "sign B 1 tails " + other)
            for side in (0, 1, 2):
                self.alike([], TELLS_ALL, side, *lines)
                self.alike([(0, 1)], number(other), side, *lines)

    def test_one_class_alone(self):
        count = 53
        kinds = [0] * 48 + [1] * 4 + [2]
        pairs = [(i, j) for i, j in itertools.combinations(range(count), 2) if kinds[i] == kinds[j]]
        self.assertEqual(len(pairs), 48 * 47 // 2 + 6)
        for light in (0, GREATEST, 0x3333333333333333):
            for side in (0, 1, 2):
                told = [number for pair in pairs for number in pair]
                self.answers([len(pairs), *told], alike, light, side, LARGEST)

    def test_unlike_shapes(self):
        for side in (0, 1, 2):
            for light in (0, TELLS_ALL):
                self.alike([], light, side, *[f"sign {shape.upper()} 1 {shape} {LOOK}" for shape in drawn.SHAPES])
                self.alike([], light, side, "sign A 1 square " + LOOK, "same 1 1 tails " + LOOK, "answer 1 long " + LOOK)

    def test_one_is_the_other_from_behind(self):
        front, behind = "0123456789abcdef", "32107654ba98fedc"
        lines = ("sign A 1 long " + front, "sign B 1 long " + behind)
        self.alike([], TELLS_ALL, 0, *lines)
        self.alike([], TELLS_ALL, 1, *lines)
        self.alike([(0, 1)], TELLS_ALL, 2, *lines)
        self.alike([], TELLS_ALL, 2, lines[0], "sign B 1 tails " + behind)
        self.alike([(0, 2)], TELLS_ALL, 2, lines[0], "sign C 1 long " + "5" * 16, lines[1])

    def test_one_is_the_other_from_behind_in_a_light(self):
        lines = ("sign A 1 long 2100000000000000", "sign B 1 long 0002000000000000")
        for side, pairs in ((0, []), (1, []), (2, [(0, 1)])):
            self.alike(pairs, SAME_LIGHT, side, *lines)
            self.alike([], TELLS_ALL, side, *lines)

    def test_each_row_from_behind_not_the_whole(self):
        lines = ("sign A 1 long " + LOOK, "sign B 1 long " + LOOK[::-1], "sign C 1 long cdef89ab45670123")
        for side in (0, 1, 2):
            self.alike([], TELLS_ALL, side, lines[0], lines[2])
        self.alike([(1, 2)], TELLS_ALL, 2, *lines)

    def test_signs_with_sames_and_with_the_answer(self):
        lines = ("sign A 1 square 0000000000000002", "sign B 1 tails 0000000000000000",
                 "same 1 1 square 1111111111111112", "same 4 2 tails 1111111111111111",
                 "answer 3 square 0101010101010102")
        for side in (0, 1, 2):
            self.alike([(0, 2), (0, 4), (1, 3), (2, 4)], SAME_LIGHT, side, *lines)
            self.alike([], TELLS_ALL, side, *lines)

    def test_two_of_three_and_all_three(self):
        lines = ("sign A 1 long 0111000000000000", "sign B 1 long 1110000000000000", "sign C 1 long 1110000000000011")
        self.alike([(0, 1)], TELLS_ALL, 2, *lines)
        self.alike([(0, 1), (0, 2), (1, 2)], SAME_LIGHT, 2, *lines)
        self.alike([], TELLS_ALL, 0, *lines)

    def test_drawn_lockers(self):
        draw = random.Random(73)
        counts = set()
        for turn in range(500):
            t, kinds = drawn.locker(draw, most=10)
            light, side = drawn.light(draw), draw.randrange(3)
            wanted = model.alike(kinds, light, side)
            self.answers(wanted, alike, light, side, t)
            counts.add(min(wanted[0], 20))
        self.assertTrue({0, 1, 2, 3, 20} <= counts)


class Refusals(Calls):
    def test_sides_above_2(self):
        for side in (3, 4, 2 ** 32, 2 ** 63, GREATEST):
            for light in (0, TELLS_ALL, GREATEST):
                self.answers([-1], alike, light, side, text(*FULL))
        self.answers([0], alike, TELLS_ALL, 2, text(*FULL))

    def test_the_text_ahead_of_the_side(self):
        for side in (0, 2, 3, GREATEST):
            for t in (*NO_LOCKERS, grown(text(*FULL), 65536), text("locker L", *signs(49))):
                self.answers([-6], alike, TELLS_ALL, side, t)
            for length in (65537, 66000):
                self.answers([-2], alike, TELLS_ALL, side, grown(text(*FULL), length))
                self.answers([-2], alike, TELLS_ALL, side, [65] * length)


if __name__ == "__main__":
    unittest.main()
