"""The calls on lockers. Each gives back a list: the number answered, then what else is told."""

from flaglockerdesk.looks import from_behind, in_light
from flaglockerdesk.reading import ANSWER, NO_LOCKER, READ, SAME, SIGN, is_name, read_text
from flaglockerdesk.sights import (
    ALL_CELLS, BEHIND, SHAPE_NOT_MADE_OUT, SIDE_NOT_KNOWN, Sight, agrees, alike_pairs, view,
)
from flaglockerdesk.telling import least_choice

SHAPE_MADE_OUT = 1

OUT_OF_BOUNDS = -1
NO_SUCH_KIND = -4
NONE = -5


def judge(t):
    reading = read_text(t)
    if reading.answer == NO_LOCKER:
        return [NO_LOCKER, reading.fault, reading.line]
    return [reading.answer]


def size(t):
    reading = read_text(t)
    if reading.answer != READ:
        return [reading.answer]
    kinds = reading.kinds
    copies = sum([one.copies for one in kinds])
    return [READ, count_of(SIGN, kinds), count_of(SAME, kinds), count_of(ANSWER, kinds), copies]


def count_of(group, kinds):
    return len([one for one in kinds if one.group == group])


def kind(i, t):
    reading = read_text(t)
    refusal = refusal_of_kind(i, reading, True)
    if refusal != READ:
        return [refusal]
    one = reading.kinds[i]
    return [READ, one.group, one.repeat, one.copies, one.shape, one.look]


def name(i, t):
    reading = read_text(t)
    refusal = refusal_of_kind(i, reading, True)
    if refusal != READ:
        return [refusal]
    one = reading.kinds[i]
    if one.group != SIGN:
        return [NONE]
    return [len(one.title)] + one.title


def find(t, n):
    reading = read_text(t)
    refusal = refusal_of(reading, is_name(n))
    if refusal != READ:
        return [refusal]
    # What is no sign has no bytes in its title, and a name has one at least.
    for number, one in enumerate(reading.kinds):
        if one.title == n:
            return [number]
    return [NONE]


def seen(i, light, side, t):
    reading = read_text(t)
    refusal = refusal_of_kind(i, reading, side <= BEHIND)
    if refusal != READ:
        return [refusal]
    return [READ, view(reading.kinds[i], light, side)]


def reads(light, side, shape, cells, look, t):
    reading = read_text(t)
    within = side <= SIDE_NOT_KNOWN and shape <= SHAPE_NOT_MADE_OUT and cells <= ALL_CELLS
    refusal = refusal_of(reading, within)
    if refusal != READ:
        return [refusal]
    sight = Sight(light, side, shape, cells, look)
    numbers = [number for number, one in enumerate(reading.kinds) if agrees(one, sight)]
    return [len(numbers)] + numbers


def alike(light, side, t):
    reading = read_text(t)
    refusal = refusal_of(reading, side <= SIDE_NOT_KNOWN)
    if refusal != READ:
        return [refusal]
    pairs = alike_pairs(reading.kinds, light, side)
    answer = [len(pairs)]
    for first, second in pairs:
        answer.extend([first, second])
    return answer


def least(i, light, side, made, t):
    reading = read_text(t)
    refusal = refusal_of_kind(i, reading, side <= SIDE_NOT_KNOWN and made <= SHAPE_MADE_OUT)
    if refusal != READ:
        return [refusal]
    told = least_choice(reading.kinds, i, light, side, made == SHAPE_MADE_OUT)
    return [NONE] if told is None else list(told)


def lookin(look, light):
    return [READ, in_light(look, light)]


def lookbehind(look):
    return [READ, from_behind(look)]


def refusal_of(reading, within):
    """Why a call on what was read is refused, or READ; within: all else handed in is within its bounds."""
    if reading.answer != READ:
        return reading.answer
    return READ if within else OUT_OF_BOUNDS


def refusal_of_kind(i, reading, within):
    """The same for a call that asks for kind i."""
    refusal = refusal_of(reading, within)
    if refusal == READ and i >= len(reading.kinds):
        return NO_SUCH_KIND
    return refusal
