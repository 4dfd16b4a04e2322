"""The calls on lockers. Each gives back a list: the number answered, then what else is told."""

from flaglockerdesk.reading import ANSWER, NO_LOCKER, READ, SAME, SIGN, read_text


def judge(t):
    reading = read_text(t)
    if reading.answer == NO_LOCKER:
        return [NO_LOCKER, reading.fault, reading.line]
    return [reading.answer]


def size(t):
    reading = read_text(t)
    if reading.answer != READ:
        return [reading.answer]
    kinds = reading.kinds
    copies = sum([one.copies for one in kinds])
    return [READ, count_of(SIGN, kinds), count_of(SAME, kinds), count_of(ANSWER, kinds), copies]


def count_of(group, kinds):
    return len([one for one in kinds if one.group == group])
