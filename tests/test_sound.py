"""Lockers that are as they must be: judge answers 0, size counts."""

import itertools
import unittest

from flaglockerdesk.locker import judge, size
from tests.cases import Calls
from tests.texts import FULL, LOOK, look, raw, signs, text


class SoundLockers(unittest.TestCase):
    def told(self, t, *counts):
        self.assertEqual(judge(t), [0])
        self.assertEqual(size(t), [0, *counts])

    def test_one_sign(self):
        self.told(text("locker L", "sign A 1 square " + LOOK), 1, 0, 0, 1)

    def test_signs_alone(self):
        self.told(text("locker L", f"sign A 1 square {LOOK}", f"sign B 2 tails {LOOK}"), 2, 0, 0, 3)

    def test_signs_and_sames(self):
        self.told(text(*FULL[:6]), 3, 2, 0, 15)

    def test_signs_and_an_answer(self):
        self.told(text(*FULL[:4], FULL[6]), 3, 0, 1, 16)

    def test_all_of_them(self):
        self.told(text(*FULL), 3, 2, 1, 19)

    def test_one_same_and_the_answer(self):
        self.told(text(FULL[0], FULL[1], FULL[4], FULL[6]), 1, 1, 1, 7)

    def test_forty_eight_signs(self):
        self.told(text("locker L", *signs(48)), 48, 0, 0, 48)

    def test_the_largest_locker(self):
        lines = [f"sign NAME00{i:02} 8 square {look(i)}" for i in range(48)]
        lines += [f"same {k} 8 tails {look(k)}" for k in (1, 2, 3, 4)]
        self.told(text("locker LONGNAME", *lines, f"answer 8 long {LOOK}"), 48, 4, 1, 424)

    def test_sames_may_skip_numbers(self):
        for rising in ((1,), (4,), (1, 2), (1, 3), (1, 4), (2, 4), (2, 3, 4), (1, 2, 3, 4)):
            lines = [f"same {k} 1 long {look(k)}" for k in rising]
            self.told(text("locker L", *signs(1), *lines), 1, len(rising), 0, 1 + len(rising))

    def test_each_number_of_copies(self):
        for copies in range(1, 9):
            self.told(text("locker L", f"sign A {copies} square {LOOK}"), 1, 0, 0, copies)
            self.told(text("locker L", *signs(1), f"same 1 {copies} long {LOOK}"), 1, 1, 0, 1 + copies)
            self.told(text("locker L", *signs(1), f"answer {copies} long {LOOK}"), 1, 0, 1, 1 + copies)

    def test_each_shape(self):
        for shape in ("square", "tails", "long"):
            self.told(text("locker L", f"sign A 1 {shape} {LOOK}"), 1, 0, 0, 1)

    def test_looks_of_digits_and_of_letters(self):
        for colour in "0123456789abcdef":
            self.told(text("locker L", "sign A 1 square " + 16 * colour), 1, 0, 0, 1)

    def test_each_byte_of_a_name(self):
        for letter in "ABCDEFGHIJKLMNOPQRSTUVWXYZ0123456789":
            self.told(text("locker " + letter, f"sign {letter} 1 square {LOOK}"), 1, 0, 0, 1)

    def test_names_of_one_to_eight_bytes(self):
        for length in range(1, 9):
            self.told(text("locker " + "Z" * length, f"sign {'9' * length} 1 long {LOOK}"), 1, 0, 0, 1)

    def test_a_sign_may_be_named_like_the_locker(self):
        self.told(text("locker L", f"sign L 1 square {LOOK}"), 1, 0, 0, 1)

    def test_names_that_only_begin_alike(self):
        self.told(text("locker L", f"sign A 1 square {LOOK}", f"sign AA 1 long {LOOK}"), 2, 0, 0, 2)

    def test_signs_in_any_order(self):
        self.told(text("locker L", f"sign Z 1 square {LOOK}", f"sign A 1 long {LOOK}"), 2, 0, 0, 2)

    def test_the_same_look_in_another_shape(self):
        lines = (f"sign A 1 square {LOOK}", f"same 1 1 tails {LOOK}", f"answer 1 long {LOOK}")
        self.told(text("locker L", *lines), 1, 1, 1, 3)

    def test_the_same_shape_with_one_cell_else(self):
        for cell in range(16):
            other = LOOK[:cell] + ("0" if cell else "1") + LOOK[cell + 1:]
            self.told(text("locker L", f"sign A 1 square {LOOK}", f"sign B 1 square {other}"), 2, 0, 0, 2)

    def test_no_two_looks_are_taken_for_one(self):
        for cell in range(0, 15, 7):
            looks = ["0" * cell + a + b + "0" * (14 - cell) for a in LOOK for b in LOOK]
            blocks = [looks[i:i + 24] for i in range(0, 256, 24)]
            for first, second in itertools.combinations(blocks, 2):
                lines = [f"sign S{i} 1 tails {word}" for i, word in enumerate(first + second)]
                self.told(text("locker L", *lines), len(lines), 0, 0, len(lines))

    def test_a_look_and_the_one_written_backwards(self):
        lines = (f"sign A 1 square {LOOK}", f"sign B 1 square {LOOK[::-1]}")
        self.told(text("locker L", *lines), 2, 0, 0, 2)


class OneTextForALocker(unittest.TestCase):
    def test_no_other_spelling_is_taken(self):
        sound = "".join(line + "\n" for line in FULL)
        self.assertEqual(judge(raw(sound)), [0])
        spellings = [
            sound.upper(), sound.lower(), sound.replace("\n", "\r\n"), sound.replace("\n", "\r"),
            sound.replace("\n", "\n\n"), sound.replace(" ", "  "), sound.replace(" ", "\t"),
            sound.replace("\n", " \n"), " " + sound, "\n" + sound, sound + "\n", sound + " ", sound[:-1],
            "\u00ef\u00bb\u00bf" + sound, sound.replace("same 1 2", "same 01 2"), sound.replace("A 1", "A 01"),
            sound.replace("abcdef", "ABCDEF"), sound.replace("square", "0"), sound + "\0",
        ]
        for spelling in spellings:
            self.assertEqual(judge(raw(spelling))[0], -6, spelling)
            self.assertEqual(size(raw(spelling)), [-6], spelling)


class WhatIsHandedInAndBack(Calls):
    def texts(self):
        long = raw("locker L\n") + [10] * 65991
        return [text(*FULL), [], text(*FULL)[:-1], text("locker L", *signs(49)), long[:65536], long]

    def test_each_call_stands_by_itself(self):
        for call in (judge, size):
            first = [self.answer(call, t) for t in self.texts()]
            again = [self.answer(call, t) for t in reversed(self.texts())]
            self.assertEqual(first, again[::-1])


if __name__ == "__main__":
    unittest.main()
