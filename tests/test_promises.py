"""What is promised of the calls together, over drawn lockers, lights, sides, shapes and cells."""

import random
import unittest

from flaglockerdesk.locker import alike, find, judge, kind, least, lookbehind, lookin, name, reads, seen, size
from tests import drawn
from tests.cases import Calls
from tests.model import SIDES, number, word
from tests.texts import text

TURNS = 250


def merged(draw, light):
    """A light that tells no more colours apart: some classes of this one are taken for others."""
    classes = [draw.choice("0123456789abcdef") for one in range(16)]
    return number("".join(classes[int(one, 16)] for one in word(light)))


class Drawn(Calls):
    def setUp(self):
        self.draw = random.Random(self.id().split(".")[-1])

    def sight(self, t, i, light, side, cells):
        """The shape and the look of a sight that is made of kind i, from some side that it may be seen from."""
        shape = self.draw.choice((kind(i, t)[4], 3))
        shown = seen(i, light, self.draw.choice(SIDES[side]), t)[1]
        return shape, drawn.elsewhere(self.draw, shown, cells)

    def turns(self, count=TURNS):
        """Lockers, each with the numbers of its kinds, a light and a side."""
        for turn in range(count):
            t, kinds = drawn.locker(self.draw)
            self.assertEqual(sum(size(t)[1:4]), len(kinds))
            yield t, range(len(kinds)), drawn.light(self.draw), self.draw.randrange(3)


class Texts(Drawn):
    def written(self, t):
        """The text of what the calls tell of a locker; only the locker's own name is told by none of them."""
        lines = [bytes(t).decode().split("\n")[0]]
        for i in range(sum(size(t)[1:4])):
            group, k, copies, shape, look = kind(i, t)[1:]
            first = (f"sign {bytes(name(i, t)[1:]).decode()}" if group == 0 else f"same {k}" if group == 1 else "answer")
            lines.append(f"{first} {copies} {drawn.SHAPES[shape]} {word(look)}")
        return text(*lines)

    def test_a_text_tells_one_locker_and_a_locker_has_one_text(self):
        for t, numbers, light, side in self.turns():
            self.assertEqual(self.answer(judge, t), [0])
            self.assertEqual(self.written(t), t)

    def test_a_text_with_one_byte_else_tells_another_locker_or_none(self):
        for t, numbers, light, side in self.turns():
            place = self.draw.randrange(len(t))
            other = t[:place] + [self.draw.choice(b"01249aAfFZ \n")] + t[place + 1:]
            if judge(other) == [0]:
                self.assertEqual(self.written(other), other)

    def test_the_counts_and_names_are_those_of_the_kinds(self):
        for t, numbers, light, side in self.turns():
            kinds = [kind(i, t) for i in numbers]
            groups = [one[1] for one in kinds]
            copies = sum(one[3] for one in kinds)
            self.assertEqual(size(t), [0, groups.count(0), groups.count(1), groups.count(2), copies])
            for i in numbers:
                if groups[i] == 0:
                    self.answers([i], find, t, name(i, t)[1:])
                else:
                    self.answers([-5], name, i, t)


class Looks(Drawn):
    def test_what_is_seen_is_the_look_in_the_light_and_from_behind(self):
        for t, numbers, light, side in self.turns():
            for i in numbers:
                look = kind(i, t)[5]
                lit = lookin(look, light)[1]
                self.answers([0, lit], seen, i, light, 0, t)
                self.answers(lookbehind(lit), seen, i, light, 1, t)
                self.answers(lookin(lookbehind(look)[1], light), seen, i, light, 1, t)


class Sights(Drawn):
    def read(self, *handed):
        told = self.answer(reads, *handed)
        self.assertEqual(told[0], len(told) - 1)
        self.assertEqual(told[1:], sorted(set(told[1:])))
        return told[1:]

    def test_a_kind_agrees_with_every_sight_that_is_made_of_it(self):
        for t, numbers, light, side in self.turns():
            cells = drawn.cells(self.draw)
            for i in numbers:
                shape, look = self.sight(t, i, light, side, cells)
                self.assertIn(i, self.read(light, side, shape, cells, look, t))

    def test_what_agrees_could_have_been_seen_just_so(self):
        for t, numbers, light, side in self.turns():
            cells = drawn.cells(self.draw)
            shape, look = self.sight(t, self.draw.choice(numbers), light, side, cells)
            for i in self.read(light, side, shape, cells, look, t):
                shows = [word(seen(i, light, one, t)[1]) for one in SIDES[side]]
                made_out = [cell for cell in range(16) if cells >> cell & 1]
                self.assertTrue(any(all(one[cell] == word(look)[cell] for cell in made_out) for one in shows))
                self.assertIn(shape, (3, kind(i, t)[4]))

    def test_with_more_cells_no_more_kinds_agree(self):
        for t, numbers, light, side in self.turns():
            more = drawn.cells(self.draw)
            fewer = more & self.draw.getrandbits(16)
            shape, look = self.sight(t, self.draw.choice(numbers), light, side, more)
            few = self.read(light, side, shape, fewer, look, t)
            self.assertLessEqual(set(self.read(light, side, shape, more, look, t)), set(few))

    def test_with_a_side_that_is_known_no_more_kinds_agree(self):
        for t, numbers, light, side in self.turns():
            cells = drawn.cells(self.draw)
            shape, look = self.sight(t, self.draw.choice(numbers), light, 2, cells)
            known = [self.read(light, one, shape, cells, look, t) for one in (0, 1)]
            self.assertEqual(self.read(light, 2, shape, cells, look, t), sorted({*known[0], *known[1]}))

    def test_with_a_shape_that_is_made_out_no_more_kinds_agree(self):
        for t, numbers, light, side in self.turns():
            cells = drawn.cells(self.draw)
            look = self.sight(t, self.draw.choice(numbers), light, side, cells)[1]
            made_out = [self.read(light, side, shape, cells, look, t) for shape in (0, 1, 2)]
            self.assertEqual(self.read(light, side, 3, cells, look, t), sorted(sum(made_out, [])))

    def test_in_a_light_that_tells_more_colours_apart_no_more_kinds_agree(self):
        for t, numbers, light, side in self.turns():
            cells = drawn.cells(self.draw)
            i, one = self.draw.choice(numbers), self.draw.choice(SIDES[side])
            dim = merged(self.draw, light)
            shape = self.draw.choice((kind(i, t)[4], 3))
            bright_read = self.read(light, side, shape, cells, seen(i, light, one, t)[1], t)
            dim_read = self.read(dim, side, shape, cells, seen(i, dim, one, t)[1], t)
            self.assertLessEqual(set(bright_read), set(dim_read))


class Telling(Drawn):
    def only(self, i, cells, light, side, made, t):
        """Whether every sight of kind i with just these cells made out is read as kind i alone."""
        shape = kind(i, t)[4] if made else 3
        shows = [seen(i, light, one, t)[1] for one in SIDES[side]]
        return all(reads(light, side, shape, cells, look, t) == [1, i] for look in shows)

    def test_the_cells_told_tell_the_kind_and_no_fewer_do(self):
        for t, numbers, light, side in self.turns():
            i, made = self.draw.choice(numbers), self.draw.randrange(2)
            told = self.answer(least, i, light, side, made, t)
            if told == [-5]:
                self.assertFalse(self.only(i, 65535, light, side, made, t))
                continue
            count, cells = told
            self.assertEqual(bin(cells).count("1"), count)
            self.assertTrue(self.only(i, cells, light, side, made, t))
            for cell in range(16):
                if cells >> cell & 1:
                    self.assertFalse(self.only(i, cells - 2 ** cell, light, side, made, t))

    def test_alike_are_just_those_that_no_cells_and_no_shape_tell_from_one_another(self):
        for t, numbers, light, side in self.turns():
            told = self.answer(alike, light, side, t)
            pairs = list(zip(told[1::2], told[2::2]))
            self.assertEqual(told[0], len(pairs))
            for i in numbers:
                untold = self.answer(least, i, light, side, 1, t) == [-5]
                self.assertEqual(untold, any(i in pair for pair in pairs))
                for j in numbers[i + 1:]:
                    shows = [seen(i, light, one, t)[1] for one in SIDES[side]]
                    taken = [j in reads(light, side, kind(i, t)[4], 65535, look, t)[1:] for look in shows]
                    self.assertEqual(any(taken), (i, j) in pairs)


if __name__ == "__main__":
    unittest.main()
