"""What lookin and lookbehind make of a look."""

import random
import unittest

from flaglockerdesk.locker import lookbehind, lookin
from tests.cases import Calls
from tests.model import TELLS_ALL, behind, lit, number, word
from tests.texts import GREATEST, LOOK


class InALight(Calls):
    def lit(self, wanted, look, light):
        self.answers([0, number(wanted)], lookin, number(look), number(light))

    def test_each_colour_its_own_class(self):
        for look in (0, 1, 0xf, 0xf << 60, TELLS_ALL, 0x0123456789abcdef, GREATEST):
            self.answers([0, look], lookin, look, TELLS_ALL)

    def test_one_class_alone(self):
        for class_told in range(16):
            light = class_told * 0x1111111111111111
            for look in (0, 1, TELLS_ALL, 0x0123456789abcdef, GREATEST):
                self.answers([0, light], lookin, look, light)

    def test_the_least_and_the_greatest(self):
        self.answers([0, 0], lookin, 0, 0)
        self.answers([0, 0], lookin, GREATEST, 0)
        self.answers([0, GREATEST], lookin, 0, GREATEST)
        self.answers([0, GREATEST], lookin, GREATEST, GREATEST)

    def test_the_class_of_each_colour(self):
        for colour in range(16):
            for class_told in range(16):
                light = class_told * 16 ** colour
                self.answers([0, class_told * 0x1111111111111111], lookin, colour * 0x1111111111111111, light)
                self.answers([0, class_told * 16 ** colour], lookin, TELLS_ALL, light)

    def test_each_cell_by_itself(self):
        for cell in range(16):
            look = "0" * cell + "5" + "0" * (15 - cell)
            self.lit("3" * cell + "c" + "3" * (15 - cell), look, "30000c0000000000")

    def test_written_out(self):
        self.lit("fedcba9876543210", LOOK, "fedcba9876543210")
        self.lit("0011223344556677", LOOK, "0011223344556677")
        self.lit("1100ffee22334455", "1100ffee22334455", LOOK)
        self.lit("9889000000000000", "1001222222222222", "8900000000000000")

    def test_drawn_looks_and_lights(self):
        draw = random.Random(83)
        for turn in range(500):
            look, light = draw.getrandbits(64), draw.getrandbits(64)
            self.lit(lit(word(look), light), word(look), word(light))


class FromBehind(Calls):
    def behind(self, wanted, look):
        self.answers([0, number(wanted)], lookbehind, number(look))

    def test_each_cell_alone(self):
        others = (3, 2, 1, 0, 7, 6, 5, 4, 11, 10, 9, 8, 15, 14, 13, 12)
        for cell, other in enumerate(others):
            for colour in range(1, 16):
                self.answers([0, colour * 16 ** other], lookbehind, colour * 16 ** cell)

    def test_written_out(self):
        self.behind("32107654ba98fedc", LOOK)
        self.behind("cdef89ab45670123", "fedcba9876543210")
        self.behind("0001000000000000", "1000000000000000")

    def test_looks_that_are_the_same_from_behind(self):
        for look in ("0" * 16, "f" * 16, "1221344356650000", "0000111122223333", "abba" * 4):
            self.behind(look, look)

    def test_the_least_and_the_greatest(self):
        self.answers([0, 0], lookbehind, 0)
        self.answers([0, GREATEST], lookbehind, GREATEST)

    def test_drawn_looks_and_twice_behind(self):
        draw = random.Random(91)
        for turn in range(500):
            look = draw.getrandbits(64)
            self.behind(behind(word(look)), word(look))
            self.answers([0, look], lookbehind, self.answer(lookbehind, look)[1])


if __name__ == "__main__":
    unittest.main()
