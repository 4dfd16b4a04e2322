"""Small changes of sound texts (at every place, with the bytes at the edges of what is allowed), read twice."""

import unittest

from flaglockerdesk.locker import judge, size
from tests.texts import FULL, expected, look, signs, text

BYTES = (0, 9, 10, 13, 31, 32, 33, 47, 48, 49, 50, 52, 53, 56, 57, 58, 64, 65, 66, 70, 71, 90, 91,
         96, 97, 102, 103, 122, 127, 128, 160, 178, 255)


class Edits(unittest.TestCase):
    def agrees(self, t):
        judged, sized = expected(t)
        self.assertEqual(judge(t), judged, bytes(t))
        self.assertEqual(size(t), sized, bytes(t))

    def test_a_byte_more_or_less_or_else(self):
        t = text(*FULL)
        for place in range(len(t) + 1):
            self.agrees(t[:place])
            self.agrees(t[:place] + t[place + 1:])
            for byte in BYTES:
                self.agrees(t[:place] + [byte] + t[place:])
                self.agrees(t[:place] + [byte] + t[place + 1:])

    def test_lines_in_any_two_places(self):
        for first in range(len(FULL)):
            for second in range(len(FULL)):
                lines = list(FULL)
                lines[first], lines[second] = lines[second], lines[first]
                self.agrees(text(*lines))
                self.agrees(text(*FULL[:first], FULL[second], *FULL[first:]))
                self.agrees(text(*FULL[:first], FULL[second], *FULL[first + 1:]))
                self.agrees(text(*FULL[:first], *FULL[second:]))

    def test_three_lines_of_many(self):
        lines = [f"sign {name} 1 {shape} {look(7)}" for name in "AB" for shape in ("square", "tails")]
        lines += [f"same {k} 2 {shape} {look(7)}" for k in (1, 2) for shape in ("tails", "long")]
        lines += [f"answer 3 {shape} {look(7)}" for shape in ("square", "long")] + ["locker L", ""]
        for first in lines:
            for second in lines:
                for third in lines:
                    self.agrees(text("locker L", first, second, third))

    def test_any_number_of_signs(self):
        for count in range(52):
            self.agrees(text("locker L", *signs(count)))
            self.agrees(text("locker L", *signs(count), FULL[4], FULL[6]))


if __name__ == "__main__":
    unittest.main()
