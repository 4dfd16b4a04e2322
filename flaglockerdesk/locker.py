"""The calls on lockers. Each gives back a list: the number answered, then what else is told."""

from flaglockerdesk.reading import ANSWER, NO_LOCKER, READ, SAME, SIGN, read_text

NO_SUCH_KIND = -4
NONE = -5


def judge(t):
    reading = read_text(t)
    if reading.answer == NO_LOCKER:
        return [NO_LOCKER, reading.fault, reading.line]
    return [reading.answer]


def size(t):
    reading = read_text(t)
    if reading.answer != READ:
        return [reading.answer]
    kinds = reading.kinds
    copies = sum([one.copies for one in kinds])
    return [READ, count_of(SIGN, kinds), count_of(SAME, kinds), count_of(ANSWER, kinds), copies]


def count_of(group, kinds):
    return len([one for one in kinds if one.group == group])


def kind(i, t):
    reading = read_text(t)
    refusal = refusal_of_kind(i, reading)
    if refusal != READ:
        return [refusal]
    one = reading.kinds[i]
    return [READ, one.group, one.repeat, one.copies, one.shape, one.look]


def name(i, t):
    reading = read_text(t)
    refusal = refusal_of_kind(i, reading)
    if refusal != READ:
        return [refusal]
    one = reading.kinds[i]
    if one.group != SIGN:
        return [NONE]
    return [len(one.title)] + one.title


def refusal_of_kind(i, reading):
    """Why kind i of what was read cannot be told, or READ."""
    if reading.answer != READ:
        return reading.answer
    return READ if i < len(reading.kinds) else NO_SUCH_KIND
