"""Texts that are no locker's: which line is told, and which kind of fault."""

import unittest

from flaglockerdesk.locker import judge, size
from tests.texts import FULL, LOOK, look, raw, signs, text

A = "sign A 1 square " + LOOK
OTHER = "fedcba9876543210"


class FaultyTexts(unittest.TestCase):
    def fault(self, t, kind, line):
        self.assertEqual(judge(t), [-6, kind, line])
        self.assertEqual(size(t), [-6])

    def bad_line(self, line):
        """As line 1 and as line 2 behind a sign, this line is none."""
        self.fault(text("locker L", line), 1, 1)
        self.fault(text("locker L", A, line), 1, 2)
        self.fault(text("locker L", A, line, "answer 1 long " + LOOK), 1, 2)


class NoneOfTheseLines(FaultyTexts):
    def test_no_bytes(self):
        self.fault([], 1, 0)

    def test_the_lockers_line_alone(self):
        self.fault(text("locker L"), 1, 1)

    def test_no_sign(self):
        self.fault(text("locker L", FULL[4]), 1, 2)
        self.fault(text("locker L", FULL[6]), 1, 2)
        self.fault(text("locker L", FULL[4], FULL[5], FULL[6]), 1, 4)

    def test_no_sign_comes_behind_the_faults_of_lines(self):
        self.fault(text("locker L", FULL[4], FULL[4]), 2, 2)
        self.fault(text("locker L", FULL[4], "answer 1 square 1111111111111111"), 4, 2)

    def test_the_byte_10_is_missing(self):
        self.fault(raw("locker L"), 1, 0)
        for count in range(1, len(FULL) + 1):
            self.fault(text(*FULL[:count])[:-1], 1, count - 1)

    def test_a_missing_byte_10_is_told_ahead_of_other_faults(self):
        self.fault(text("locker L", A, A)[:-1], 1, 2)
        self.fault(text("locker L", *signs(49))[:-1], 1, 49)
        self.fault(text("locker L", A, "sign B 1 square " + LOOK)[:-1], 1, 2)

    def test_bytes_behind_the_last_byte_10(self):
        for byte in (0, 9, 13, 32, 65, 255):
            self.fault(text(*FULL) + [byte], 1, 7)
            self.fault(text("locker L", A) + [byte, byte], 1, 2)
            self.fault(text("locker L") + [byte], 1, 1)
            self.fault([byte], 1, 0)

    def test_empty_lines(self):
        self.fault([10], 1, 0)
        self.fault([10, 10], 1, 0)
        for place in range(len(FULL) + 1):
            lines = list(FULL)
            lines.insert(place, "")
            self.fault(text(*lines), 1, place)

    def test_blanks(self):
        for place, line in enumerate(FULL):
            spoilt = [" " + line, line + " ", line.replace(" ", "\t"), line.replace(" ", ""), line + "\r", " "]
            gaps = [i for i, letter in enumerate(line) if letter == " "]
            spoilt += [line[:i] + " " + line[i:] for i in gaps]
            spoilt += [line[:i] + line[i + 1:] for i in gaps]
            for other in spoilt:
                self.fault(text(*FULL[:place], other, *FULL[place + 1:]), 1, place)

    def test_words_too_many_or_too_few(self):
        for place, line in enumerate(FULL):
            words = line.split(" ")
            spoilt = [words[:i] + words[i + 1:] for i in range(len(words))]
            spoilt += [words[:i] + [words[i]] + words[i:] for i in range(len(words))]
            spoilt += [words + ["A"], words[:1], words[::-1]]
            for other in spoilt:
                self.fault(text(*FULL[:place], " ".join(other), *FULL[place + 1:]), 1, place)

    def test_first_words(self):
        for word in ("Locker", "LOCKER", "lockers", "locke", "lock", "kind", "sign", "same", "answer"):
            self.fault(text(word + " L", A), 1, 0)
        for word in ("Sign", "SIGN", "signs", "sig", "locker", "same", "answer", ""):
            self.bad_line(f"{word} B 1 square {OTHER}")
        for word in ("Same", "sames", "sam", "locker", "answer", ""):
            self.bad_line(f"{word} 1 1 square {OTHER}")
        for word in ("Answer", "answers", "answe", "locker", "sign", "same", ""):
            self.bad_line(f"{word} 1 square {OTHER}")

    def test_names_of_no_and_of_nine_bytes(self):
        for name in ("", "ABCDEFGHI", "123456789", "A" * 1000):
            self.fault(text("locker " + name, A), 1, 0)
            self.bad_line(f"sign {name} 1 square {OTHER}")
        self.fault(text("locker", A), 1, 0)
        self.bad_line(f"sign 1 square {OTHER}")

    def test_bytes_that_no_name_has(self):
        good = set(b"ABCDEFGHIJKLMNOPQRSTUVWXYZ0123456789")
        for byte in range(256):
            if byte in good or byte == 10:
                continue
            for name in (chr(byte), "A" + chr(byte), chr(byte) + "A", "AB" + chr(byte) + "CD"):
                self.fault(text("locker " + name, A), 1, 0)
                self.bad_line(f"sign {name} 1 square {OTHER}")

    def test_copies(self):
        for copies in ("0", "9", "", "01", "10", "88", "a", "A", "+1", "-1", "/", ":", "\xb2", "\xff"):
            self.bad_line(f"sign B {copies} square {OTHER}")
            self.bad_line(f"same 1 {copies} square {OTHER}")
            self.bad_line(f"answer {copies} square {OTHER}")

    def test_numbers_of_sames(self):
        for number in ("0", "5", "8", "9", "", "01", "14", "A", "a", "-1", "/", ":", "\xb2"):
            self.bad_line(f"same {number} 1 square {OTHER}")

    def test_shapes(self):
        for shape in ("Square", "SQUARE", "squares", "squar", "tail", "Tails", "longs", "lon", "0", "1", "2", "3", ""):
            self.bad_line(f"sign B 1 {shape} {OTHER}")
            self.bad_line(f"same 1 1 {shape} {OTHER}")
            self.bad_line(f"answer 1 {shape} {OTHER}")

    def test_looks(self):
        spoilt = ["", OTHER[:15], OTHER + "0", "0" * 15, "0" * 17, "0" * 32, OTHER.upper(), "g" * 16, "0x" + OTHER[2:]]
        for letter in "ABCDEFgGz/:@`-+_.\x00\xb2\xff":
            spoilt += [letter + OTHER[1:], OTHER[:15] + letter, OTHER[:7] + letter + OTHER[8:]]
        for word in spoilt:
            self.bad_line(f"sign B 1 square {word}")
            self.bad_line(f"same 1 1 square {word}")
            self.bad_line(f"answer 1 square {word}")


class LinesThatCannotStandThere(FaultyTexts):
    def test_line_0_is_the_lockers(self):
        self.fault(text(A), 1, 0)
        self.fault(text(A, "locker L"), 1, 0)
        self.fault(text(FULL[4], "locker L", A), 1, 0)
        self.fault(text(FULL[6], "locker L", A), 1, 0)

    def test_no_other_line_is_the_lockers(self):
        for place in range(1, len(FULL) + 1):
            for name in ("L", "HARBOUR1"):
                self.fault(text(*FULL[:place], "locker " + name, *FULL[place:]), 1, place)

    def test_a_sign_behind_a_same(self):
        self.fault(text("locker L", A, FULL[4], FULL[2]), 1, 3)
        self.fault(text("locker L", FULL[4], A), 1, 2)

    def test_a_sign_behind_the_answer(self):
        self.fault(text("locker L", A, FULL[6], FULL[2]), 1, 3)
        self.fault(text("locker L", FULL[6], A), 1, 2)

    def test_anything_behind_the_answer(self):
        for line in (FULL[2], FULL[4], "answer 1 square 2222222222222222", FULL[6], "locker L", "", "words", " "):
            self.fault(text("locker L", A, FULL[6], line), 1, 3)
            self.fault(text("locker L", A, FULL[5], FULL[6], line), 1, 4)


class NamesAndNumbersThatStandBefore(FaultyTexts):
    def test_a_name_that_stands_before(self):
        self.fault(text("locker L", A, f"sign A 2 long {OTHER}"), 2, 2)
        self.fault(text("locker L", A, FULL[2], FULL[3], f"sign A 2 long {OTHER}"), 2, 4)
        self.fault(text("locker L", A, FULL[2], FULL[3], f"sign B7 2 long {OTHER}"), 2, 4)

    def test_each_name_of_many(self):
        for number in range(47):
            self.fault(text("locker L", *signs(47), f"sign S{number} 1 long {LOOK}"), 2, 48)

    def test_a_number_that_is_not_above_one_before(self):
        for first in range(1, 5):
            for second in range(1, first + 1):
                lines = (f"same {first} 1 long {LOOK}", f"same {second} 1 long {OTHER}")
                self.fault(text("locker L", A, *lines), 2, 3)
                self.fault(text("locker L", A, *lines, FULL[6]), 2, 3)

    def test_a_number_that_is_not_above_the_first_or_second_before(self):
        for third in (1, 2, 3):
            lines = ("same 1 1 long " + LOOK, "same 3 1 long " + OTHER, f"same {third} 1 tails {LOOK}")
            self.fault(text("locker L", A, *lines), 2, 4)


class TheSignTooMany(FaultyTexts):
    def test_a_forty_ninth_sign(self):
        self.fault(text("locker L", *signs(49)), 3, 49)
        self.fault(text("locker L", *signs(60)), 3, 49)
        self.fault(text("locker L", *signs(49), FULL[4], FULL[6]), 3, 49)

    def test_sames_and_the_answer_are_no_signs(self):
        lines = [f"same {k} 1 long {look(k)}" for k in (1, 2, 3, 4)]
        self.assertEqual(judge(text("locker L", *signs(48), *lines, "answer 1 tails " + LOOK)), [0])


class TheSameShapeAndLook(FaultyTexts):
    def test_among_signs(self):
        for shape in ("square", "tails", "long"):
            first = f"sign A 1 {shape} {LOOK}"
            self.fault(text("locker L", first, f"sign B 5 {shape} {LOOK}"), 4, 2)
            self.fault(text("locker L", first, FULL[2], FULL[3], f"sign D 1 {shape} {LOOK}"), 4, 4)

    def test_each_sign_of_forty_eight(self):
        for number in range(47):
            self.fault(text("locker L", *signs(47), f"sign X 1 square {look(number)}"), 4, 48)

    def test_a_same_like_a_sign(self):
        self.fault(text("locker L", A, FULL[2], "same 2 1 square " + LOOK), 4, 3)

    def test_a_same_like_a_same(self):
        self.fault(text("locker L", A, "same 1 1 long " + OTHER, "same 2 2 long " + OTHER), 4, 3)

    def test_the_answer_like_a_sign(self):
        self.fault(text("locker L", A, FULL[2], "answer 2 square " + LOOK), 4, 3)

    def test_the_answer_like_a_same(self):
        self.fault(text("locker L", A, "same 1 1 long " + OTHER, "answer 2 long " + OTHER), 4, 3)


class TheChoiceBetweenFaults(FaultyTexts):
    def test_the_first_faulty_line(self):
        wrong = (("words", 1), ("sign A 1 long " + OTHER, 2), ("sign B 1 square " + LOOK, 4))
        for first, kind in wrong:
            for second, later in wrong:
                self.fault(text("locker L", A, first, second), kind, 2)
                self.fault(text("locker L", A, first, second)[:-1], kind, 2)
                self.fault(text("locker L", A, FULL[2], first, second), kind, 3)
        self.fault(text("lockers L", "words"), 1, 0)
        self.fault(text("locker L", *signs(49), "words"), 3, 49)

    def test_1_ahead_of_2(self):
        self.fault(text("locker L", A, "sign A 9 long " + OTHER), 1, 2)
        self.fault(text("locker L", A, FULL[4], "sign A 1 long " + OTHER), 1, 3)
        self.fault(text("locker L", A, FULL[5], "same 1 0 long " + OTHER), 1, 3)
        self.fault(text("locker L", A, FULL[5], FULL[6], "same 1 1 long " + OTHER), 1, 4)

    def test_1_ahead_of_3(self):
        self.fault(text("locker L", *signs(48), "sign X 1 square " + LOOK[:15]), 1, 49)
        self.fault(text("locker L", *signs(48), "same 1 1 long " + LOOK, "sign X 1 tails " + LOOK), 1, 50)

    def test_1_ahead_of_4(self):
        self.fault(text("locker L", A, "sign b 1 square " + LOOK), 1, 2)
        self.fault(text("locker L", A, FULL[6], "answer 1 square " + LOOK), 1, 3)
        self.fault(text("locker L", A, FULL[4], "sign B 1 square " + LOOK), 1, 3)

    def test_2_ahead_of_3(self):
        self.fault(text("locker L", *signs(48), "sign S0 1 long " + LOOK), 2, 49)

    def test_2_ahead_of_4(self):
        self.fault(text("locker L", A, A), 2, 2)
        self.fault(text("locker L", A, FULL[4], FULL[4]), 2, 3)
        self.fault(text("locker L", A, FULL[4], "same 1 1 square " + LOOK), 2, 3)

    def test_3_ahead_of_4(self):
        self.fault(text("locker L", *signs(48), "sign X 1 square " + look(0)), 3, 49)

    def test_2_ahead_of_3_and_4(self):
        self.fault(text("locker L", *signs(48), "sign S0 1 square " + look(0)), 2, 49)


class LongTexts(FaultyTexts):
    def filled(self, start, byte, length):
        return start + [byte] * (length - len(start))

    def test_65536_bytes_are_judged(self):
        self.fault(self.filled([], 65, 65536), 1, 0)
        self.fault(self.filled([], 10, 65536), 1, 0)
        self.fault(self.filled([], 32, 65536), 1, 0)
        self.fault(self.filled(raw("locker "), 65, 65536), 1, 0)
        self.fault(self.filled(text("locker L"), 65, 65536), 1, 1)
        self.fault(self.filled(text(*FULL), 10, 65536), 1, 7)
        self.fault(self.filled(text(*FULL), 65, 65535) + [10], 1, 7)
        self.fault(self.filled(text("locker L", A) + raw("sign A"), 65, 65536), 1, 2)

    def test_65537_bytes_are_too_many(self):
        for length in (65537, 65538, 65999, 66000):
            for start in ([], text(*FULL), text("locker L", A, A), text("locker L", *signs(49))):
                for byte in (0, 10, 32, 65):
                    t = self.filled(start, byte, length)
                    self.assertEqual(judge(t), [-2])
                    self.assertEqual(size(t), [-2])

    def test_many_lines(self):
        lines = signs(2500)
        t = text("locker L", *lines)[:65536]
        self.assertEqual(len(t), 65536)
        self.fault(t, 3, 49)

    def test_many_words(self):
        self.fault(raw("locker" + " L" * 32000 + "\n") + text(A), 1, 0)


if __name__ == "__main__":
    unittest.main()
