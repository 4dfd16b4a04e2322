"""Reads the text of a locker: the kinds it tells, or its first fault."""

from flaglockerdesk.looks import CELLS, number_of

READ = 0
TOO_LONG = -2
NO_LOCKER = -6

SIGN = 0
SAME = 1
ANSWER = 2

SOUND = 0
MISPLACED = 1
REPEATED = 2
ONE_SIGN_TOO_MANY = 3
LOOKS_LIKE_ANOTHER = 4

MOST_BYTES = 65536
MOST_SIGNS = 48
MOST_COPIES = 8
MOST_REPEAT = 4
LONGEST_NAME = 8

LINE_END = 10
BLANK = 32
SHAPES = ("square", "tails", "long")


class Kind:
    """One kind in a locker; title is a sign's name, repeat a same's K."""

    def __init__(self, group, title, repeat, copies, shape, look):
        self.group = group
        self.title = title
        self.repeat = repeat
        self.copies = copies
        self.shape = shape
        self.look = look


class Reading:
    """What became of a text: READ with its kinds, or a refusal, with the fault where it is NO_LOCKER."""

    def __init__(self, answer, fault, line, kinds):
        self.answer = answer
        self.fault = fault
        self.line = line
        self.kinds = kinds


def read_text(t):
    if len(t) > MOST_BYTES:
        return Reading(TOO_LONG, SOUND, 0, [])
    parts = split_at(LINE_END, t)
    lines = parts[:-1]
    unended = parts[-1]
    kinds = []
    for number, line in enumerate(lines):
        words = split_at(BLANK, line)
        if number == 0:
            if not is_locker_line(words):
                return no_locker(MISPLACED, number)
        else:
            kind = kind_told(words)
            fault = fault_behind(kinds, kind)
            if fault != SOUND:
                return no_locker(fault, number)
            kinds.append(kind)
    # Both faults are of the line behind the last whole one, and so is that of a text of no bytes.
    if unended or not has_sign(kinds):
        return no_locker(MISPLACED, len(lines))
    return Reading(READ, SOUND, 0, kinds)


def no_locker(fault, line):
    return Reading(NO_LOCKER, fault, line, [])


def has_sign(kinds):
    return any([kind.group == SIGN for kind in kinds])


def split_at(mark, row):
    """The parts of row between its marks, empty ones too: two marks in a row must not pass for one."""
    parts = []
    part = []
    for byte in row:
        if byte == mark:
            parts.append(part)
            part = []
        else:
            part.append(byte)
    parts.append(part)
    return parts


def is_locker_line(words):
    return len(words) == 2 and words[0] == spelled("locker") and is_name(words[1])


def kind_told(words):
    """The kind that a line of these words tells, or None."""
    if len(words) == 5 and words[0] == spelled("sign") and is_name(words[1]):
        return kind_with(SIGN, words[1], 0, words[2:])
    if len(words) == 5 and words[0] == spelled("same"):
        repeat = digit_to(MOST_REPEAT, words[1])
        if repeat is not None:
            return kind_with(SAME, [], repeat, words[2:])
    if len(words) == 4 and words[0] == spelled("answer"):
        return kind_with(ANSWER, [], 0, words[1:])
    return None


def kind_with(group, title, repeat, words):
    """The kind with the copies, shape and look of these three words, or None."""
    copies = digit_to(MOST_COPIES, words[0])
    shape = shape_told(words[1])
    look = look_told(words[2])
    if copies is None or shape is None or look is None:
        return None
    return Kind(group, title, repeat, copies, shape, look)


def fault_behind(kinds, kind):
    """The first fault of a line that tells this kind (None: no kind) behind the lines of those kinds."""
    if kind is None or not may_follow(kinds, kind):
        return MISPLACED
    if any([is_repeated(before, kind) for before in kinds]):
        return REPEATED
    # A sign stands behind signs alone, so all kinds before it are signs.
    if kind.group == SIGN and len(kinds) >= MOST_SIGNS:
        return ONE_SIGN_TOO_MANY
    if any([before.shape == kind.shape and before.look == kind.look for before in kinds]):
        return LOOKS_LIKE_ANOTHER
    return SOUND


def may_follow(kinds, kind):
    if not kinds:
        return True
    last = kinds[-1].group
    return last != ANSWER and last <= kind.group


def is_repeated(before, kind):
    if before.group != kind.group:
        return False
    if kind.group == SIGN:
        return before.title == kind.title
    return kind.repeat <= before.repeat


def spelled(word):
    return [ord(letter) for letter in word]


def is_name(word):
    return 1 <= len(word) <= LONGEST_NAME and all([is_name_byte(byte) for byte in word])


def is_name_byte(byte):
    return ord("A") <= byte <= ord("Z") or ord("0") <= byte <= ord("9")


def digit_to(most, word):
    """The number from 1 to most that is written as this one digit, or None."""
    if len(word) != 1:
        return None
    value = word[0] - ord("0")
    return value if 1 <= value <= most else None


def shape_told(word):
    for number, written in enumerate(SHAPES):
        if word == spelled(written):
            return number
    return None


def look_told(word):
    colours = [colour_told(byte) for byte in word]
    if len(word) != CELLS or None in colours:
        return None
    return number_of(colours)


def colour_told(byte):
    if ord("0") <= byte <= ord("9"):
        return byte - ord("0")
    if ord("a") <= byte <= ord("f"):
        return byte - ord("a") + 10
    return None
