"""Looks worked out a second way: as words of sixteen hexadecimal digits, cell 0 first."""

TELLS_ALL = 0xfedcba9876543210  # the light in which each colour is its own class


def number(word):
    return int(word[::-1], 16)


def word(number):
    return format(number, "016x")[::-1]


def lit(look, light):
    classes = word(light)
    return "".join(classes[int(colour, 16)] for colour in look)


def behind(look):
    return "".join(look[row:row + 4][::-1] for row in (0, 4, 8, 12))


def view(look, light, side):
    """How a look is in a light from side 0 or 1."""
    return behind(lit(look, light)) if side else lit(look, light)


SIDES = ((0,), (1,), (0, 1))  # from where a flag may be seen, by the side that is told


def views(kind, light, side):
    """The words that a kind, its shape and its look as a word, may show."""
    return [view(kind[1], light, one) for one in SIDES[side]]


def made_out(cells):
    return [cell for cell in range(16) if format(cells, "016b")[15 - cell] == "1"]


def agrees(kind, light, side, shape, cells, look):
    if shape != 3 and shape != kind[0]:
        return False
    return any(all(shown[cell] == look[cell] for cell in made_out(cells)) for shown in views(kind, light, side))


def reads(kinds, light, side, shape, cells, look):
    numbers = [i for i, kind in enumerate(kinds) if agrees(kind, light, side, shape, cells, look)]
    return [len(numbers), *numbers]


def alike(kinds, light, side):
    """Held against the sights themselves: only one that shows what a kind shows agrees with that kind."""
    sights = {(shape, shown) for shape, look in kinds for shown in views((shape, look), light, side)}
    pairs = set()
    for shape, shown in sights:
        told = reads(kinds, light, side, shape, 65535, shown)[1:]
        pairs.update((i, j) for i in told for j in told if i < j)
    return [len(pairs), *[number for pair in sorted(pairs) for number in pair]]


def tells(kinds, i, cells, light, side, made):
    """Whether these cells tell kind i, held against every sight of it that has just them made out."""
    shape = kinds[i][0] if made else 3
    others = kinds[:i] + kinds[i + 1:]
    return not any(agrees(other, light, side, shape, cells, shown)
                   for shown in views(kinds[i], light, side) for other in others)


CHOICES = sorted(range(65536), key=lambda cells: (len(made_out(cells)), cells))


def least(kinds, i, light, side, made):
    """The first choice that tells the kind, of all: those of fewer cells first, then by their numbers."""
    if not tells(kinds, i, 65535, light, side, made):
        return [-5]
    for cells in CHOICES:
        if tells(kinds, i, cells, light, side, made):
            return [len(made_out(cells)), cells]
