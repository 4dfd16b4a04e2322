"""Which sign find tells for a name."""

import unittest

from flaglockerdesk.locker import find
from tests.cases import Calls
from tests.texts import FULL, LARGEST, LOOK, NO_LOCKERS, grown, raw, text

GOOD = raw("ABCDEFGHIJKLMNOPQRSTUVWXYZ0123456789")


class Found(Calls):
    def finds(self, wanted, lines, name):
        self.answers([wanted], find, text("locker L", *lines), raw(name))

    def test_each_sign_of_a_locker(self):
        for number, name in enumerate(("A", "B7", "C")):
            self.answers([number], find, text(*FULL), raw(name))

    def test_each_of_many_signs(self):
        for number in range(48):
            self.answers([number], find, LARGEST, raw(f"S{number}"))

    def test_names_of_one_to_eight_bytes(self):
        names = ["Z90AQ5B1"[:length] for length in range(1, 9)]
        for order in (names, names[::-1]):
            lines = [f"sign {name} 1 square {i:016}" for i, name in enumerate(order)]
            for number, name in enumerate(order):
                self.finds(number, lines, name)

    def test_each_byte_of_a_name(self):
        for byte in GOOD:
            self.finds(0, [f"sign {chr(byte)} 1 square {LOOK}"], chr(byte))

    def test_a_sign_that_is_named_like_the_locker(self):
        self.finds(1, ["sign A 1 long " + LOOK, "sign L 1 square " + LOOK], "L")


class NotFound(Calls):
    def none(self, t, name):
        self.answers([-5], find, t, raw(name))

    def test_no_signs_name(self):
        for name in ("D", "AA", "A7", "BB7", "B77", "B8", "7", "0", "ZZZZZZZZ", "00000000", "ABCDEFGH"):
            self.none(text(*FULL), name)

    def test_the_beginning_or_the_end_of_a_name(self):
        t = text("locker L", "sign FLAG12 1 long " + LOOK)
        for name in ("F", "FLAG1", "FLAG123", "LAG12", "2", "12", "FLAG1200"):
            self.none(t, name)
        self.answers([0], find, t, raw("FLAG12"))

    def test_the_lockers_own_name(self):
        self.none(text(*FULL), "HARBOUR1")
        self.none(LARGEST, "LONGNAME")

    def test_other_words_of_the_text(self):
        t = text("locker L", "sign A 7 long 4444444444444444", "same 2 6 tails 3333333333333333", "answer 5 long " + LOOK)
        for name in ("1", "2", "5", "6", "7", "SAME", "ANSWER", "SIGN", "LOCKER", "44444444", "LONG"):
            self.none(t, name)


class NoNames(Calls):
    def no_name(self, name):
        self.answers([-1], find, text(*FULL), name)

    def test_no_byte_and_more_than_eight(self):
        self.no_name([])
        for length in range(9, 41):
            self.no_name([65] * length)
            self.no_name([48] * length)
        self.no_name(raw("A" + " " * 39))

    def test_a_name_of_nine_bytes_that_begins_with_a_signs(self):
        self.answers([-1], find, text("locker L", "sign ABCDEFGH 1 long " + LOOK), raw("ABCDEFGHI"))
        self.answers([0], find, text("locker L", "sign ABCDEFGH 1 long " + LOOK), raw("ABCDEFGH"))

    def test_bytes_that_no_name_has(self):
        for byte in range(256):
            wanted = [-5] if byte in GOOD else [-1]
            for name in ([90, byte], [90, byte, 90], [byte, 90, 90], [90] * 7 + [byte]):
                self.answers(wanted, find, text(*FULL), name)
            if byte not in GOOD:
                self.no_name([byte])
                self.no_name([byte, 65])
                self.no_name([65, byte])

    def test_words_of_the_text_that_are_no_names(self):
        for name in ("a", "sign", "square", "HARBOUR1\n", "A ", " A", "A 1", "\nsign A", "b7"):
            self.no_name(raw(name))


class Refusals(Calls):
    def test_the_text_ahead_of_the_name(self):
        for name in (raw("A"), raw("ZZ"), [], [97], [65] * 9, [0] * 40):
            for t in NO_LOCKERS:
                self.answers([-6], find, t, name)
            self.answers([-6], find, grown(text(*FULL), 65536), name)
            for length in (65537, 66000):
                self.answers([-2], find, grown(text(*FULL), length), name)
                self.answers([-2], find, [0] * length, name)


if __name__ == "__main__":
    unittest.main()
