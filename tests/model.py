"""Looks worked out a second way: as words of sixteen hexadecimal digits, cell 0 first."""

TELLS_ALL = 0xfedcba9876543210  # the light in which each colour is its own class


def number(word):
    return int(word[::-1], 16)


def word(number):
    return format(number, "016x")[::-1]


def lit(look, light):
    classes = word(light)
    return "".join(classes[int(colour, 16)] for colour in look)


def behind(look):
    return "".join(look[row:row + 4][::-1] for row in (0, 4, 8, 12))


def view(look, light, side):
    """How a look is in a light from side 0 or 1."""
    return behind(lit(look, light)) if side else lit(look, light)
