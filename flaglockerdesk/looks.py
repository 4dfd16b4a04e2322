"""Looks and lights as numbers: their digits, a look in a light, a look from behind."""

CELLS = 16
COLOURS = 16
ROW = 4


def digits_of(number):
    """The colours of a look, cell 0 first, or the classes in a light, that of colour 0 first."""
    digits = []
    for place in range(CELLS):
        digits.append(number % COLOURS)
        number = number // COLOURS
    return digits


def number_of(digits):
    number = 0
    # The first digit is the lowest, so it is taken up last.
    for digit in reversed(digits):
        number = number * COLOURS + digit
    return number


def in_light(look, light):
    classes = digits_of(light)
    return number_of([classes[colour] for colour in digits_of(look)])


def from_behind(look):
    colours = digits_of(look)
    return number_of([colours[mirrored(cell)] for cell in range(CELLS)])


def mirrored(cell):
    """The cell that is as far from the other end of its row."""
    before = cell % ROW
    return cell - before + ROW - 1 - before


def cells_apart(look, other):
    """The cells in which two looks differ, as a number with bit i for cell i."""
    apart = 0
    bit = 1
    for first, second in zip(digits_of(look), digits_of(other)):
        if first != second:
            apart += bit
        bit *= 2
    return apart
