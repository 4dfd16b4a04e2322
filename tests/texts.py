"""Texts of lockers for the tests, and a second reading of them, written another way."""

import re

LOOK = "0123456789abcdef"
GREATEST = 18446744073709551615


def look(number):
    """A LOOK that is different for each number below 16^4."""
    return format(number, "04x") + "000000000000"


def text(*lines):
    """The text of these lines, each with its byte 10, as a list of bytes."""
    return raw("".join(line + "\n" for line in lines))


def raw(letters):
    return list(letters.encode("latin-1"))


def grown(t, length):
    """The text t with so many bytes more that it has this length; it is no locker's any more."""
    return t + [10] * (length - len(t))


def signs(count):
    """Lines of so many signs, none like another."""
    return [f"sign S{i} 1 square {look(i)}" for i in range(count)]


FULL = (
    "locker HARBOUR1",
    "sign A 1 square 0123456789abcdef",
    "sign B7 8 tails ffff0000ffff0000",
    "sign C 3 long 0000000000000000",
    "same 1 2 square 1111111111111111",
    "same 3 1 tails 1111111111111111",
    "answer 4 long 1111111111111111",
)

LARGEST = text(
    "locker LONGNAME",
    *signs(48),
    *[f"same {k} {k} tails {look(k)}" for k in (1, 2, 3, 4)],
    "answer 8 long " + LOOK,
)

NO_LOCKERS = (
    [], [10], text("locker L"), text(*FULL)[:-1], text(*FULL) + [65], text(*FULL, "words"),
    text("locker L", *signs(49)), text("locker L", FULL[1], FULL[1]), text("locker L", FULL[4]),
)

TAIL = rb"([1-8]) (square|tails|long) ([0-9a-f]{16})"
LOCKER_LINE = re.compile(rb"locker [A-Z0-9]{1,8}")
SIGN_LINE = re.compile(rb"sign ([A-Z0-9]{1,8}) " + TAIL)
SAME_LINE = re.compile(rb"same ([1-4]) " + TAIL)
ANSWER_LINE = re.compile(rb"answer()" + b" " + TAIL)


def told_by(line):
    for group, pattern in enumerate((SIGN_LINE, SAME_LINE, ANSWER_LINE)):
        found = pattern.fullmatch(line)
        if found:
            return group, found
    return None, None


def expected(t):
    """What judge and size are to answer to t, worked out by patterns."""
    if len(t) > 65536:
        return [-2], [-2]
    lines = re.findall(rb"[^\n]*\n|[^\n]+", bytes(t))
    names, looks, counts, flags, last, most = set(), set(), [0, 0, 0], 0, 0, 0
    for number, line in enumerate(lines):
        fault = 0
        group, found = told_by(line[:-1])
        if not line.endswith(b"\n"):
            fault = 1
        elif number == 0:
            fault = 0 if LOCKER_LINE.fullmatch(line[:-1]) else 1
        elif group is None or group < last or last == 2:
            fault = 1
        elif group == 0 and found[1] in names or group == 1 and int(found[1]) <= most:
            fault = 2
        elif group == 0 and counts[0] == 48:
            fault = 3
        elif (found[3], found[4]) in looks:
            fault = 4
        if fault:
            return [-6, fault, number], [-6]
        if number > 0:
            last = group
            names.add(found[1])
            most = int(found[1]) if group == 1 else most
            looks.add((found[3], found[4]))
            counts[group] += 1
            flags += int(found[2])
    if counts[0] == 0:
        return [-6, 1, len(lines)], [-6]
    return [0], [0] + counts + [flags]
