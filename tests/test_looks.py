"""What lookin makes of a look."""

import random
import unittest

from flaglockerdesk.locker import lookin
from tests.cases import Calls
from tests.model import TELLS_ALL, lit, number, word
from tests.texts import GREATEST, LOOK


class InALight(Calls):
    def lit(self, wanted, look, light):
        self.answers([0, number(wanted)], lookin, number(look), number(light))

    def test_each_colour_its_own_class(self):
        for look in (0, 1, 0xf, 0xf << 60, TELLS_ALL, 0x0123456789abcdef, GREATEST):
            self.answers([0, look], lookin, look, TELLS_ALL)

    def test_one_class_alone(self):
        for class_told in range(16):
            light = class_told * 0x1111111111111111
            for look in (0, 1, TELLS_ALL, 0x0123456789abcdef, GREATEST):
                self.answers([0, light], lookin, look, light)

    def test_the_least_and_the_greatest(self):
        self.answers([0, 0], lookin, 0, 0)
        self.answers([0, 0], lookin, GREATEST, 0)
        self.answers([0, GREATEST], lookin, 0, GREATEST)
        self.answers([0, GREATEST], lookin, GREATEST, GREATEST)

    def test_the_class_of_each_colour(self):
        for colour in range(16):
            for class_told in range(16):
                light = class_told * 16 ** colour
                self.answers([0, class_told * 0x1111111111111111], lookin, colour * 0x1111111111111111, light)
                self.answers([0, class_told * 16 ** colour], lookin, TELLS_ALL, light)

    def test_each_cell_by_itself(self):
        for cell in range(16):
            look = "0" * cell + "5" + "0" * (15 - cell)
            self.lit("3" * cell + "c" + "3" * (15 - cell), look, "30000c0000000000")

    def test_written_out(self):
        self.lit("fedcba9876543210", LOOK, "fedcba9876543210")
        self.lit("0011223344556677", LOOK, "0011223344556677")
        self.lit("1100ffee22334455", "1100ffee22334455", LOOK)
        self.lit("9889000000000000", "1001222222222222", "8900000000000000")

    def test_drawn_looks_and_lights(self):
        draw = random.Random(83)
        for turn in range(500):
            look, light = draw.getrandbits(64), draw.getrandbits(64)
            self.lit(lit(word(look), light), word(look), word(light))


if __name__ == "__main__":
    unittest.main()
