"""Which kinds reads tells to agree with a sight."""

import random
import unittest

from flaglockerdesk.locker import reads
from tests import drawn, model
from tests.cases import Calls
from tests.model import TELLS_ALL, number
from tests.texts import FULL, GREATEST, LARGEST, LOOK, NO_LOCKERS, grown, text

ALL = 65535

# One look in each of the shapes, and what is seen of it from behind as a sign of its own.
FLAGS = text(
    "locker L",
    "sign A 1 square 0123000000000000",
    "sign B 1 square 3210000000000000",
    "sign C 1 tails 0123000000000000",
    "same 2 1 long 0123000000000000",
    "answer 1 square " + LOOK,
)


class Agreeing(Calls):
    def reads(self, wanted, side, shape, cells, look, t=FLAGS, light=TELLS_ALL):
        self.answers([len(wanted), *wanted], reads, light, side, shape, cells, number(look), t)

    def test_no_cells(self):
        for look in ("0" * 16, LOOK, "f" * 16):
            for side in (0, 1, 2):
                self.reads([0, 1, 4], side, 0, 0, look)
                self.reads([2], side, 1, 0, look)
                self.reads([3], side, 2, 0, look)
                self.reads([0, 1, 2, 3, 4], side, 3, 0, look)

    def test_all_cells(self):
        look = "0123000000000000"
        self.reads([0], 0, 0, ALL, look)
        self.reads([2], 0, 1, ALL, look)
        self.reads([3], 0, 2, ALL, look)
        self.reads([0, 2, 3], 0, 3, ALL, look)
        self.reads([1], 1, 0, ALL, look)
        self.reads([], 1, 1, ALL, look)
        self.reads([1], 1, 3, ALL, look)
        self.reads([0, 1], 2, 0, ALL, look)
        self.reads([0, 1, 2, 3], 2, 3, ALL, look)
        self.reads([4], 0, 3, ALL, LOOK)
        self.reads([], 1, 3, ALL, LOOK)
        self.reads([4], 1, 3, ALL, "32107654ba98fedc")
        self.reads([], 2, 3, ALL, "f" * 16)

    def test_one_cell(self):
        self.reads([0, 2, 3, 4], 0, 3, 1, "0" * 16)
        self.reads([1], 0, 3, 1, "3" * 16)
        self.reads([1], 1, 3, 1, "0" * 16)
        self.reads([0, 2, 3, 4], 1, 3, 1, "3" * 16)
        self.reads([0, 1, 2, 3, 4], 2, 3, 1, "3" * 16)
        self.reads([], 2, 3, 1, "1" * 16)

    def test_each_cell_alone(self):
        for cell in range(16):
            for colour in range(16):
                look = "f" * cell + LOOK[colour] + "f" * (15 - cell)
                other = cell // 4 * 4 + 3 - cell % 4
                t = text("locker L", "sign A 1 long " + LOOK)
                self.reads([0] if colour == cell else [], 0, 3, 2 ** cell, look, t)
                self.reads([0] if colour == other else [], 1, 3, 2 ** cell, look, t)
                self.reads([0] if colour in (cell, other) else [], 2, 3, 2 ** cell, look, t)

    def test_some_cells(self):
        self.reads([0, 2, 3, 4], 0, 3, 0b1111, "0123ffffffffffff")
        self.reads([4], 0, 3, 0b11111, "01234fffffffffff")
        self.reads([0, 2, 3], 0, 3, 0b11111, "01230fffffffffff")
        self.reads([0, 1, 2, 3], 0, 3, 0xfff0, "ffff000000000000")
        self.reads([4], 0, 3, 0x8000, "eeeeeeeeeeeeeeef")
        self.reads([], 0, 3, 0x8001, "1eeeeeeeeeeeeeef")

    def test_other_cells_are_not_looked_at(self):
        draw = random.Random(71)
        for turn in range(200):
            cells = draw.getrandbits(16)
            look = draw.choice(("0123000000000000", "3210000000000000", LOOK))
            other = "".join(own if cells >> i & 1 else draw.choice(LOOK) for i, own in enumerate(look))
            told = self.answer(reads, TELLS_ALL, 0, 3, cells, number(look), FLAGS)
            self.answers(told, reads, TELLS_ALL, 0, 3, cells, number(other), FLAGS)

    def test_a_cell_that_differs_is_looked_at_only_if_it_is_made_out(self):
        t = text("locker L", "sign A 1 long " + LOOK)
        for cell in range(16):
            look = LOOK[:cell] + LOOK[15 - cell] + LOOK[cell + 1:]
            self.reads([], 0, 2, ALL, look, t)
            self.reads([], 0, 2, 2 ** cell, look, t)
            self.reads([0], 0, 2, ALL - 2 ** cell, look, t)

    def test_cells_of_both_sides_do_not_make_one_sight(self):
        # Cell 0 as from the front and cell 4 as from behind: no side shows both.
        self.reads([], 2, 3, 0b10001, "0fff7fffffffffff", text("locker L", "sign A 1 long " + LOOK))
        self.reads([0], 2, 3, 0b10001, "3fff7fffffffffff", text("locker L", "sign A 1 long " + LOOK))

    def test_from_one_side_alone_and_from_both(self):
        t = text("locker L", "sign A 1 long 1221000034435665", "sign B 1 long 1121000034435665")
        self.reads([0], 0, 2, ALL, "1221000034435665", t)
        self.reads([0], 1, 2, ALL, "1221000034435665", t)
        self.reads([0], 2, 2, ALL, "1221000034435665", t)
        self.reads([1], 0, 2, ALL, "1121000034435665", t)
        self.reads([], 1, 2, ALL, "1121000034435665", t)
        self.reads([1], 2, 2, ALL, "1211000034435665", t)

    def test_the_look_is_of_classes(self):
        light = number("5566" + "0" * 12)
        self.reads([0, 2, 3], 0, 3, ALL, "5566555555555555", light=light)
        self.reads([], 0, 3, ALL, "0123000000000000", light=light)
        self.reads([4], 0, 3, ALL, "5566000000000000", light=light)
        self.reads([0, 1, 2, 3], 2, 3, ALL, "5566555555555555", light=light)

    def test_a_light_with_one_class_alone(self):
        for light, shown in ((0, "0"), (GREATEST, "f"), (0x9999999999999999, "9")):
            for side in (0, 1, 2):
                self.reads([0, 1, 2, 3, 4], side, 3, ALL, shown * 16, light=light)
                self.reads([0, 1, 4], side, 0, ALL, shown * 16, light=light)
                self.reads([], side, 3, ALL, shown * 15 + "3", light=light)

    def test_the_largest_locker(self):
        self.reads(list(range(53)), 2, 3, 0, LOOK, LARGEST)
        self.reads(list(range(48)), 0, 0, 0b11, "00" + "f" * 14, LARGEST)
        self.reads([*range(16, 32)], 0, 0, 0b111, "001" + "f" * 13, LARGEST)
        self.reads([2, 49], 0, 3, ALL, "0002000000000000", LARGEST)
        self.reads([2, 32, 49], 2, 3, 0b1100, "ff02" + "f" * 12, text(*lines_with_mirrors()))

    def test_drawn_lockers_and_sights(self):
        draw = random.Random(72)
        counts = set()
        for turn in range(600):
            t, kinds = drawn.locker(draw)
            light, side, shape, cells = drawn.light(draw), draw.randrange(3), draw.randrange(4), drawn.cells(draw)
            shown = model.view(draw.choice(kinds)[1], light, draw.randrange(2))
            look = model.word(drawn.elsewhere(draw, number(shown), cells | draw.getrandbits(16)))
            wanted = model.reads(kinds, light, side, shape, cells, look)
            self.answers(wanted, reads, light, side, shape, cells, number(look), t)
            counts.add(wanted[0])
        self.assertTrue({0, 1, 2, 3, 4, 5} <= counts)


def lines_with_mirrors():
    """The largest locker with a sign 32 that shows from behind, in cells 2 and 3, what sign 2 shows."""
    lines = bytes(LARGEST).decode().split("\n")[:-1]
    lines[33] = "sign S32 1 square 2000000000000000"
    return lines


class Refusals(Calls):
    def refused(self, refusal, t, side=0, shape=0, cells=0):
        for light, look in ((0, 0), (TELLS_ALL, GREATEST)):
            self.answers([refusal], reads, light, side, shape, cells, look, t)

    def test_bounds(self):
        t = text(*FULL)
        for side in (3, 4, 2 ** 32, 2 ** 63, GREATEST):
            self.refused(-1, t, side=side)
        for shape in (4, 5, 2 ** 32, 2 ** 63, GREATEST):
            self.refused(-1, t, shape=shape)
        for cells in (65536, 65537, 131071, 2 ** 32, 2 ** 63, GREATEST):
            self.refused(-1, t, cells=cells)
        self.refused(-1, t, 3, 4, 65536)
        self.refused(-1, t, GREATEST, GREATEST, GREATEST)

    def test_within_the_bounds(self):
        for side in (0, 1, 2):
            for shape in (0, 1, 2, 3):
                for cells in (0, 65535):
                    told = self.answer(reads, TELLS_ALL, side, shape, cells, 0, text(*FULL))
                    self.assertEqual(told[0], len(told) - 1)

    def test_the_text_ahead_of_the_bounds(self):
        for side, shape, cells in ((0, 0, 0), (3, 0, 0), (0, 4, 0), (0, 0, 65536), (GREATEST, GREATEST, GREATEST)):
            for t in NO_LOCKERS:
                self.refused(-6, t, side, shape, cells)
            self.refused(-6, grown(text(*FULL), 65536), side, shape, cells)
            for length in (65537, 66000):
                self.refused(-2, grown(text(*FULL), length), side, shape, cells)


if __name__ == "__main__":
    unittest.main()
