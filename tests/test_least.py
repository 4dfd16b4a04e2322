"""How few cells least tells to be enough for a kind, and which."""

import itertools
import random
import unittest

from flaglockerdesk.locker import least
from tests import drawn, model
from tests.cases import Calls
from tests.model import TELLS_ALL, number
from tests.texts import FULL, GREATEST, LARGEST, LOOK, NO_LOCKERS, grown, signs, text

PLAIN = "0" * 16


def with_cells(cells, colour="1"):
    """A look of colour 0 but in these cells."""
    return "".join(colour if cell in cells else "0" for cell in range(16))


def squares(*looks):
    return text("locker L", *[f"sign S{i} 1 square {look}" for i, look in enumerate(looks)])


class Least(Calls):
    def least(self, count, cells, i, t, side=0, made=0, light=TELLS_ALL):
        self.answers([count, cells], least, i, light, side, made, t)

    def test_one_kind_alone(self):
        for light, side, made in itertools.product((0, TELLS_ALL, GREATEST), (0, 1, 2), (0, 1)):
            self.least(0, 0, 0, squares(LOOK), side, made, light)

    def test_one_cell(self):
        for cell in range(16):
            other = cell // 4 * 4 + 3 - cell % 4
            t = squares(PLAIN, with_cells([cell]))
            for i in (0, 1):
                for made in (0, 1):
                    self.least(1, 2 ** cell, i, t, 0, made)
                    self.least(1, 2 ** other, i, t, 1, made)
            # Seen from a side that is not known, the cell that differs may be either of two.
            for i in (0, 1):
                self.least(2, 2 ** cell + 2 ** other, i, t, 2)

    def test_one_cell_of_several(self):
        t = squares(PLAIN, with_cells([3, 5, 9]))
        self.least(1, 2 ** 3, 0, t, 0)
        self.least(1, 2 ** 0, 0, t, 1)
        self.least(2, 2 ** 0 + 2 ** 3, 0, t, 2)

    def test_two_cells(self):
        t = squares(with_cells([2]), with_cells([7]), PLAIN, with_cells([2, 7]))
        for i in range(4):
            self.least(2, 2 ** 2 + 2 ** 7, i, t)
            self.least(2, 2 ** 1 + 2 ** 4, i, t, 1)

    def test_each_kind_has_its_own_choice(self):
        t = squares(PLAIN, with_cells([1]), with_cells([6]))
        self.least(2, 2 ** 1 + 2 ** 6, 0, t)
        self.least(1, 2 ** 1, 1, t)
        self.least(1, 2 ** 6, 2, t)

    def test_fewer_cells_come_ahead_of_a_lesser_number(self):
        # Cells 0 and 1 make the lesser number, cell 15 alone is fewer.
        t = squares(PLAIN, with_cells([0, 15]), with_cells([1, 15]))
        self.least(1, 2 ** 15, 0, t)

    def test_the_least_number_of_several_choices(self):
        t = squares(PLAIN, with_cells([0, 15]), with_cells([1, 15]), with_cells([2, 3, 4]), with_cells([4, 14]))
        self.least(2, 2 ** 4 + 2 ** 15, 0, t)
        t = squares(PLAIN, with_cells([4, 9]), with_cells([5, 9]), with_cells([4, 8]), with_cells([5, 8]))
        self.least(2, 2 ** 4 + 2 ** 5, 0, t)
        # The highest cell counts, not the lowest: 1 and 2 are less than 0 and 3.
        t = squares(PLAIN, with_cells([0, 1]), with_cells([0, 2]), with_cells([1, 3]), with_cells([2, 3]))
        self.least(2, 2 ** 1 + 2 ** 2, 0, t)

    def test_several_cells(self):
        for count in range(1, 17):
            cells = list(range(count))
            self.least(count, 2 ** count - 1, 0, squares(PLAIN, *[with_cells([cell]) for cell in cells]))
            self.least(count, 65536 - 2 ** (16 - count), 0, squares(PLAIN, *[with_cells([15 - cell]) for cell in cells]))

    def test_all_cells(self):
        t = squares(PLAIN, *[with_cells([cell]) for cell in range(16)])
        for side, made in itertools.product((0, 1, 2), (0, 1)):
            self.least(16, 65535, 0, t, side, made)
        self.least(1, 2 ** 9, 10, t)
        self.least(1, 2 ** 10, 10, t, 1)
        self.least(2, 2 ** 9 + 2 ** 10, 9, squares(*[with_cells([cell]) for cell in range(16) if cell != 9], PLAIN), 2)

    def test_pairs_of_cells(self):
        # Of each two cells one must be made out, so all but one are: the highest is left out.
        lookers = [with_cells(pair) for pair in itertools.combinations(range(10), 2)]
        self.least(9, 2 ** 9 - 1, 0, squares(PLAIN, *lookers))

    def test_the_shape_alone(self):
        t = text("locker L", *[f"sign S{i} 1 {shape} {LOOK}" for i, shape in enumerate(drawn.SHAPES)])
        for i, side, light in itertools.product((0, 1, 2), (0, 1, 2), (0, TELLS_ALL)):
            self.least(0, 0, i, t, side, 1, light)
            self.answers([-5], least, i, light, side, 0, t)

    def test_the_shape_is_made_out_or_not(self):
        t = text("locker L", "sign A 1 square " + PLAIN, "sign B 1 square " + with_cells([3]),
                 "same 1 1 tails " + with_cells([0]), "answer 1 long " + with_cells([13]))
        self.least(1, 2 ** 3, 0, t, 0, 1)
        self.least(3, 2 ** 0 + 2 ** 3 + 2 ** 13, 0, t, 0, 0)
        self.least(0, 0, 2, t, 0, 1)
        self.least(1, 2 ** 0, 2, t, 0, 0)
        self.least(0, 0, 3, t, 2, 1)
        self.least(2, 2 ** 13 + 2 ** 14, 3, t, 2, 0)

    def test_not_even_all_cells_do(self):
        light = number("0023456789abcdef")
        t = squares(PLAIN, with_cells([8]), with_cells([8], "2"))
        for side, made in itertools.product((0, 1, 2), (0, 1)):
            for i in (0, 1):
                self.answers([-5], least, i, light, side, made, t)
        self.least(1, 2 ** 8, 2, t, 0, 0, light)
        for i in (0, 1, 2):
            for light in (0, GREATEST):
                self.answers([-5], least, i, light, 0, 0, t)

    def test_one_is_the_other_from_behind(self):
        t = squares(LOOK, "32107654ba98fedc")
        for made in (0, 1):
            for i in (0, 1):
                self.least(1, 1, i, t, 0, made)
                self.least(1, 1, i, t, 1, made)
                self.answers([-5], least, i, TELLS_ALL, 2, made, t)

    def test_its_own_other_side_is_no_other_kind(self):
        self.least(0, 0, 0, squares(LOOK), 2)
        self.least(1, 1, 0, squares(LOOK, "f" * 16), 2)

    def test_a_side_that_is_not_known(self):
        # From the front cell 0 is enough; from behind it shows the other's colour.
        t = squares("1000000000000000", "0000000000000000")
        self.least(1, 1, 0, t, 0)
        self.least(1, 8, 0, t, 1)
        self.least(2, 9, 0, t, 2)
        # What the other may show from behind is to be told from it too.
        t = squares("1000000000000001", "0001000000000000")
        self.least(1, 1, 0, t, 0)
        self.least(2, 2 ** 12 + 2 ** 15, 0, t, 2)

    def test_the_largest_locker(self):
        self.least(2, 0b1100, 0, LARGEST, 0, 1)
        self.least(2, 0b0011, 0, LARGEST, 1, 1)
        self.least(2, 0b1100, 47, LARGEST, 0, 1)
        # Sign 35 shows in these two cells what the answer does.
        self.least(2, 0b1100, 35, LARGEST, 0, 1)
        self.least(3, 0b1110, 35, LARGEST, 0, 0)
        self.least(0, 0, 52, LARGEST, 2, 1)
        self.answers([-5], least, 1, TELLS_ALL, 0, 0, LARGEST)
        self.answers([-5], least, 48, TELLS_ALL, 0, 0, LARGEST)
        self.least(1, 0b1000, 48, LARGEST, 0, 1)

    def test_each_kind_of_the_largest_locker(self):
        kinds = [(0, line.split(" ")[-1]) for line in signs(48)]
        kinds += [(1, format(k, "04x") + "0" * 12) for k in (1, 2, 3, 4)] + [(2, LOOK)]
        for i in range(53):
            for side, made in itertools.product((0, 1, 2), (0, 1)):
                wanted = model.least(kinds, i, TELLS_ALL, side, made)
                self.answers(wanted, least, i, TELLS_ALL, side, made, LARGEST)

    def test_drawn_lockers(self):
        draw = random.Random(81)
        counts = set()
        for turn in range(120):
            t, kinds = drawn.locker(draw, most=8)
            light, side, made = drawn.light(draw), draw.randrange(3), draw.randrange(2)
            i = draw.randrange(len(kinds))
            wanted = model.least(kinds, i, light, side, made)
            self.answers(wanted, least, i, light, side, made, t)
            counts.add(wanted[0])
        self.assertTrue({-5, 0, 1, 2, 3} <= counts, counts)

    def test_drawn_lockers_with_many_near_kinds(self):
        draw = random.Random(82)
        counts = set()
        for turn in range(12):
            looks = [PLAIN] + [with_cells(draw.sample(range(16), draw.choice((1, 2, 2, 3)))) for one in range(9)]
            looks = list(dict.fromkeys(looks))
            side = draw.randrange(2)
            wanted = model.least([(0, look) for look in looks], 0, TELLS_ALL, side, 1)
            self.answers(wanted, least, 0, TELLS_ALL, side, 1, squares(*looks))
            counts.add(wanted[0])
        self.assertTrue(max(counts) >= 5, counts)


class Refusals(Calls):
    def refused(self, refusal, i, side, made, t):
        for light in (0, TELLS_ALL, GREATEST):
            self.answers([refusal], least, i, light, side, made, t)

    def test_bounds(self):
        # No such kind, and one that nothing tells: what is out of bounds is told ahead of these.
        for i in (0, 5, 6, GREATEST):
            for side in (3, 4, 2 ** 32, 2 ** 63, GREATEST):
                self.refused(-1, i, side, 0, text(*FULL))
            for made in (2, 3, 2 ** 32, 2 ** 63, GREATEST):
                self.refused(-1, i, 0, made, text(*FULL))
            self.refused(-1, i, 3, 2, text(*FULL))
        self.refused(-1, 0, 3, 1, squares(LOOK))
        self.refused(-1, 0, 2, 2, squares(LOOK))

    def test_within_the_bounds(self):
        for side, made in itertools.product((0, 1, 2), (0, 1)):
            self.assertEqual(len(self.answer(least, 0, TELLS_ALL, side, made, text(*FULL))), 2)

    def test_there_is_no_such_kind(self):
        for count, t in ((1, squares(LOOK)), (6, text(*FULL)), (48, text("locker L", *signs(48))), (53, LARGEST)):
            for side, made in itertools.product((0, 2), (0, 1)):
                self.assertNotEqual(self.answer(least, count - 1, 0, side, made, t), [-4])
                for i in (count, count + 1, 2 ** 63, GREATEST):
                    self.refused(-4, i, side, made, t)

    def test_no_such_kind_comes_ahead_of_none(self):
        t = squares(PLAIN, LOOK)
        self.answers([-5], least, 1, 0, 0, 0, t)
        self.answers([-4], least, 2, 0, 0, 0, t)
        self.answers([-1], least, 1, 0, 3, 0, t)

    def test_the_text_ahead_of_all_else(self):
        for i, side, made in ((0, 0, 0), (0, 3, 0), (0, 0, 2), (100, 0, 0), (GREATEST, GREATEST, GREATEST)):
            for t in (*NO_LOCKERS, grown(text(*FULL), 65536)):
                self.answers([-6], least, i, TELLS_ALL, side, made, t)
            for length in (65537, 66000):
                self.answers([-2], least, i, TELLS_ALL, side, made, grown(text(*FULL), length))


if __name__ == "__main__":
    unittest.main()
