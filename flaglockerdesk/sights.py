"""What is made out of a flag from afar: which kinds agree with it, and which are alike."""

from flaglockerdesk.looks import cells_apart, from_behind, in_light

FRONT = 0
BEHIND = 1
SIDE_NOT_KNOWN = 2

SHAPE_NOT_MADE_OUT = 3

ALL_CELLS = 65535


class Sight:
    """What somebody made out of one flag; the cells as a number, with bit i for cell i."""

    def __init__(self, light, side, shape, cells, look):
        self.light = light
        self.side = side
        self.shape = shape
        self.cells = cells
        self.look = look


def view(kind, light, side):
    look = in_light(kind.look, light)
    return from_behind(look) if side == BEHIND else look


def views(kind, light, side):
    """The looks of a kind from each side that it may be seen from."""
    if side == SIDE_NOT_KNOWN:
        return [view(kind, light, FRONT), view(kind, light, BEHIND)]
    return [view(kind, light, side)]


def agrees(kind, sight):
    if sight.shape != SHAPE_NOT_MADE_OUT and sight.shape != kind.shape:
        return False
    looks = views(kind, sight.light, sight.side)
    return any([cells_apart(look, sight.look) & sight.cells == 0 for look in looks])


def alike_pairs(kinds, light, side):
    """The pairs of the numbers of kinds that are alike, rising."""
    looks = [views(kind, light, side) for kind in kinds]
    pairs = []
    for first in range(len(kinds)):
        for second in range(first + 1, len(kinds)):
            same_shape = kinds[first].shape == kinds[second].shape
            if same_shape and share_a_look(looks[first], looks[second]):
                pairs.append((first, second))
    return pairs


def share_a_look(looks, others):
    """With all cells made out a sight agrees with a kind only if its look is one of the kind's views."""
    return any([look in others for look in looks])
