"""What kind and name tell of the kinds of a locker."""

import unittest

from flaglockerdesk.locker import kind, name
from tests.cases import Calls
from tests.texts import FULL, GREATEST, LARGEST, LOOK, NO_LOCKERS, grown, look, raw, signs, text

CALLS = (kind, name)


class Kinds(Calls):
    def test_each_kind_of_a_locker(self):
        t = text(*FULL)
        self.answers([0, 0, 0, 1, 0, 0xfedcba9876543210], kind, 0, t)
        self.answers([0, 0, 0, 8, 1, 0x0000ffff0000ffff], kind, 1, t)
        self.answers([0, 0, 0, 3, 2, 0], kind, 2, t)
        self.answers([0, 1, 1, 2, 0, 0x1111111111111111], kind, 3, t)
        self.answers([0, 1, 3, 1, 1, 0x1111111111111111], kind, 4, t)
        self.answers([0, 2, 0, 4, 2, 0x1111111111111111], kind, 5, t)

    def test_each_number_of_a_same(self):
        for k in (1, 2, 3, 4):
            t = text("locker L", *signs(2), f"same {k} 5 tails {LOOK}")
            self.answers([0, 1, k, 5, 1, 0xfedcba9876543210], kind, 2, t)

    def test_sames_are_numbered_behind_the_signs(self):
        for number in (48, 49, 50, 51):
            self.assertEqual(self.answer(kind, number, LARGEST)[:4], [0, 1, number - 47, number - 47])

    def test_copies_and_shapes(self):
        for copies in range(1, 9):
            for shape, word in enumerate(("square", "tails", "long")):
                tail = f"{copies} {word} {LOOK}"
                told = [copies, shape, 0xfedcba9876543210]
                self.answers([0, 0, 0, *told], kind, 0, text("locker L", "sign A " + tail))
                self.answers([0, 1, 4, *told], kind, 1, text("locker L", *signs(1), "same 4 " + tail))
                self.answers([0, 2, 0, *told], kind, 1, text("locker L", *signs(1), "answer " + tail))

    def test_cell_0_is_the_lowest_digit(self):
        for cell in range(16):
            for colour in range(16):
                word = "0" * cell + format(colour, "x") + "0" * (15 - cell)
                told = [0, 0, 0, 1, 0, colour * 16 ** cell]
                self.answers(told, kind, 0, text("locker L", "sign A 1 square " + word))

    def test_the_least_and_the_greatest_look(self):
        t = text("locker L", "sign A 1 long " + "0" * 16, "sign B 1 long " + "f" * 16)
        self.answers([0, 0, 0, 1, 2, 0], kind, 0, t)
        self.answers([0, 0, 0, 1, 2, GREATEST], kind, 1, t)

    def test_kinds_stand_in_the_order_of_their_lines(self):
        t = text("locker L", f"sign Z 2 long {LOOK}", f"sign A 1 tails {LOOK}", f"sign M 3 square {LOOK}")
        self.assertEqual([self.answer(kind, i, t)[3:5] for i in (0, 1, 2)], [[2, 2], [1, 1], [3, 0]])

    def test_each_of_many_signs(self):
        for number in range(48):
            wanted = int(look(number)[::-1], 16)
            self.answers([0, 0, 0, 1, 0, wanted], kind, number, LARGEST)
        self.answers([0, 2, 0, 8, 2, 0xfedcba9876543210], kind, 52, LARGEST)


class Names(Calls):
    def test_each_sign_of_a_locker(self):
        t = text(*FULL)
        self.answers([1, 65], name, 0, t)
        self.answers([2, 66, 55], name, 1, t)
        self.answers([1, 67], name, 2, t)

    def test_names_of_one_to_eight_bytes(self):
        for length in range(1, 9):
            word = "Z90AQ5B1"[:length]
            self.answers([length] + raw(word), name, 0, text("locker L", f"sign {word} 1 square {LOOK}"))

    def test_each_byte_of_a_name(self):
        for byte in raw("ABCDEFGHIJKLMNOPQRSTUVWXYZ0123456789"):
            self.answers([1, byte], name, 0, text("locker L", f"sign {chr(byte)} 1 square {LOOK}"))

    def test_each_of_many_signs(self):
        for number in range(48):
            word = raw(f"S{number}")
            self.answers([len(word)] + word, name, number, LARGEST)

    def test_a_same_and_the_answer_have_none(self):
        for number in (3, 4, 5):
            self.answers([-5], name, number, text(*FULL))
        for number in (48, 49, 50, 51, 52):
            self.answers([-5], name, number, LARGEST)


class Refusals(Calls):
    def test_there_is_no_such_kind(self):
        lockers = (
            (1, text("locker L", *signs(1))), (2, text("locker L", *signs(2))),
            (2, text("locker L", FULL[1], FULL[4])), (2, text("locker L", FULL[1], FULL[6])),
            (6, text(*FULL)), (48, text("locker L", *signs(48))), (53, LARGEST),
        )
        for call in CALLS:
            for count, t in lockers:
                self.assertNotEqual(self.answer(call, 0, t), [-4])
                self.assertNotEqual(self.answer(call, count - 1, t), [-4])
                for number in (count, count + 1, 2 ** 32, 2 ** 63, GREATEST):
                    self.answers([-4], call, number, t)

    def test_no_lockers_text(self):
        for call in CALLS:
            for t in NO_LOCKERS:
                for number in (0, 1, 3, 100, GREATEST):
                    self.answers([-6], call, number, t)

    def test_a_text_of_65536_bytes_and_longer_ones(self):
        for call in CALLS:
            for number in (0, 5, GREATEST):
                self.answers([-6], call, number, grown(text(*FULL), 65536))
                for length in (65537, 66000):
                    self.answers([-2], call, number, grown(text(*FULL), length))
                    self.answers([-2], call, number, [0] * length)

    def test_no_such_kind_comes_ahead_of_no_sign(self):
        self.answers([-5], name, 5, text(*FULL))
        self.answers([-4], name, 6, text(*FULL))


if __name__ == "__main__":
    unittest.main()
