"""Lockers, lights and sights that are drawn: small ones whose kinds are easily taken for one another."""

from tests.model import behind, number, word
from tests.texts import text

SHAPES = ("square", "tails", "long")


def near(draw, look, colours):
    """A look that has much of this one: as it is, from behind, or with some cells else."""
    cells = list(behind(look) if draw.random() < 0.3 else look)
    for turn in range(draw.choice((0, 1, 1, 2, 4, 16))):
        cells[draw.randrange(16)] = draw.choice(colours)
    return "".join(cells)


def kinds(draw, count, colours):
    """So many kinds, each a shape and a look, none like another."""
    shapes = draw.choice(((0,), (0, 1), (0, 1, 2)))
    drawn = []
    while len(drawn) < count:
        look = drawn[draw.randrange(len(drawn))][1] if drawn else "0" * 16
        kind = (draw.choice(shapes), near(draw, look, colours))
        if kind not in drawn:
            drawn.append(kind)
    return drawn


def text_of(drawn, signs, sames):
    """The text of these kinds, of which the first are signs, the next sames and one more the answer."""
    lines = []
    for i, (shape, look) in enumerate(drawn):
        if i < signs:
            first = f"sign N{i}"
        else:
            first = f"same {i - signs + 1}" if i < signs + sames else "answer"
        lines.append(f"{first} {i % 8 + 1} {SHAPES[shape]} {look}")
    return text("locker DRAWN", *lines)


def locker(draw, most=6, colours=None):
    """A locker's text and its kinds, with at most so many signs."""
    signs, sames, answer = draw.randint(1, most), draw.randint(0, 4), draw.randint(0, 1)
    drawn = kinds(draw, signs + sames + answer, colours or draw.choice(("01", "012", "0123456789abcdef")))
    return text_of(drawn, signs, sames), drawn


def light(draw):
    """A light in which few or many colours are taken for one another."""
    classes = draw.choice(("0", "01", "0123", "0123456789abcdef"))
    return number("".join(draw.choice(classes) for colour in range(16)))


def cells(draw):
    return draw.choice((0, 1 << draw.randrange(16), draw.getrandbits(16) & draw.getrandbits(16),
                        draw.getrandbits(16), draw.getrandbits(16) | draw.getrandbits(16), 65535))


def elsewhere(draw, look, made_out):
    """This look, a number, with anything in the cells that aren't made out."""
    other = word(draw.getrandbits(64))
    return number("".join(own if made_out >> cell & 1 else other[cell] for cell, own in enumerate(word(look))))
