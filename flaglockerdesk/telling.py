"""How few cells of a kind must be made out to know it among the kinds of its locker."""

from flaglockerdesk.looks import CELLS, cells_apart
from flaglockerdesk.sights import views


def least_choice(kinds, i, light, side, shape_made_out):
    """How many cells tell kind i at the least, and of the choices of so many the least number; or None."""
    apart = ways_apart(kinds, i, light, side, shape_made_out)
    # Where two looks are the same no cells help: to try all choices would only take long.
    if 0 in apart:
        return None
    choices = [0]
    for count in range(CELLS + 1):
        for choice in choices:
            if meets_all(choice, apart):
                return (count, choice)
        choices = with_one_cell_more(choices)
    return None


def ways_apart(kinds, i, light, side, shape_made_out):
    """For each look of kind i and each of another kind that it may be taken for, the cells in which they differ."""
    looks = views(kinds[i], light, side)
    apart = []
    for number, other in enumerate(kinds):
        told_by_shape = shape_made_out and other.shape != kinds[i].shape
        if number != i and not told_by_shape:
            for shown in views(other, light, side):
                apart.extend([cells_apart(look, shown) for look in looks])
    return sorted(set(apart))


def meets_all(choice, apart):
    for cells in apart:
        if choice & cells == 0:
            return False
    return True


def with_one_cell_more(choices):
    """All choices of one cell more, rising, where these are all of as many cells, rising."""
    more = []
    bit = 1
    for cell in range(CELLS):
        # The new cell is the highest of its choice, so that no choice comes twice.
        more.extend([choice + bit for choice in choices if choice < bit])
        bit *= 2
    return more
