"""How seen tells a kind's look, in a light and from a side."""

import random
import unittest

from flaglockerdesk.locker import seen
from tests.cases import Calls
from tests.model import TELLS_ALL, number, view, word
from tests.texts import FULL, GREATEST, LARGEST, LOOK, NO_LOCKERS, grown, signs, text

ROWS = text("locker L", "sign A 1 square " + LOOK)


class Seen(Calls):
    def sees(self, wanted, i, light, side, t):
        self.answers([0, number(wanted)], seen, i, light, side, t)

    def test_from_the_front_and_from_behind(self):
        self.sees("0123456789abcdef", 0, TELLS_ALL, 0, ROWS)
        self.sees("32107654ba98fedc", 0, TELLS_ALL, 1, ROWS)

    def test_each_cell_from_behind(self):
        others = (3, 2, 1, 0, 7, 6, 5, 4, 11, 10, 9, 8, 15, 14, 13, 12)
        for cell, other in enumerate(others):
            t = text("locker L", "sign A 1 square " + "0" * cell + "5" + "0" * (15 - cell))
            self.answers([0, 5 * 16 ** cell], seen, 0, TELLS_ALL, 0, t)
            self.answers([0, 5 * 16 ** other], seen, 0, TELLS_ALL, 1, t)

    def test_a_look_that_is_the_same_from_behind(self):
        t = text("locker L", "sign A 1 square 1221344356650000")
        for side in (0, 1):
            self.sees("1221344356650000", 0, TELLS_ALL, side, t)

    def test_lights_with_one_class_alone(self):
        for side in (0, 1):
            for i in range(6):
                self.answers([0, 0], seen, i, 0, side, text(*FULL))
                self.answers([0, GREATEST], seen, i, GREATEST, side, text(*FULL))
                self.answers([0, 0x7777777777777777], seen, i, 0x7777777777777777, side, text(*FULL))

    def test_a_light_that_changes_one_colour(self):
        for colour in range(16):
            for class_told in range(16):
                light = number(LOOK[:colour] + LOOK[class_told] + LOOK[colour + 1:])
                changed = LOOK.replace(LOOK[colour], LOOK[class_told])
                self.sees(changed, 0, light, 0, ROWS)

    def test_the_class_of_colour_0_is_the_lowest_digit(self):
        for colour in range(16):
            self.answers([0, 9 * 16 ** colour], seen, 0, 9 * 16 ** colour, 0, ROWS)

    def test_signs_sames_and_the_answer(self):
        looks = [line.split(" ")[-1] for line in FULL[1:]]
        for i, look in enumerate(looks):
            self.sees(look, i, TELLS_ALL, 0, text(*FULL))
            for light in (0x123456789abcdef0, 0x1000000000000032, 0x0000000000000010):
                for side in (0, 1):
                    self.sees(view(look, light, side), i, light, side, text(*FULL))

    def test_the_last_kinds_of_the_largest_locker(self):
        self.sees("3210" + "7654" + "ba98" + "fedc", 52, TELLS_ALL, 1, LARGEST)
        self.sees("0004000000000000", 51, TELLS_ALL, 0, LARGEST)
        self.sees("4000000000000000", 51, TELLS_ALL, 1, LARGEST)
        self.sees("f200000000000000", 47, number("0123456789abcdef"), 1, LARGEST)

    def test_drawn_looks_and_lights(self):
        draw = random.Random(6)
        for turn in range(300):
            look, light, side = word(draw.getrandbits(64)), draw.getrandbits(64), draw.randrange(2)
            line = draw.choice(("sign X 1 long ", "same 1 2 tails ", "answer 8 square ")) + look
            t = text("locker L", line) if line.startswith("sign") else text("locker L", "sign A 1 long " + LOOK, line)
            self.sees(view(look, light, side), 0 if line.startswith("sign") else 1, light, side, t)


class Refusals(Calls):
    def test_sides_above_1(self):
        for side in (2, 3, 2 ** 32, 2 ** 63, GREATEST):
            for i in (0, 5, 6, GREATEST):
                self.answers([-1], seen, i, TELLS_ALL, side, text(*FULL))

    def test_there_is_no_such_kind(self):
        for count, t in ((1, ROWS), (6, text(*FULL)), (48, text("locker L", *signs(48))), (53, LARGEST)):
            for side in (0, 1):
                self.assertEqual(self.answer(seen, count - 1, 0, side, t)[0], 0)
                for i in (count, count + 1, 2 ** 63, GREATEST):
                    self.answers([-4], seen, i, 0, side, t)

    def test_the_text_ahead_of_side_and_kind(self):
        for i, side in ((0, 0), (0, 2), (100, 0), (GREATEST, GREATEST)):
            for t in NO_LOCKERS:
                self.answers([-6], seen, i, TELLS_ALL, side, t)
            self.answers([-6], seen, i, TELLS_ALL, side, grown(text(*FULL), 65536))
            for length in (65537, 66000):
                self.answers([-2], seen, i, TELLS_ALL, side, grown(text(*FULL), length))


if __name__ == "__main__":
    unittest.main()
