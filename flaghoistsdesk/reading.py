"""A locker's kinds, read out of its text.

A text, a line of it and a word of a line are lists of bytes: whole numbers from 0 to 255.
Functions that read give None, and digit_of gives 0, for what isn't as it must be.
"""

MOST_BYTES = 65536
MOST_SIGNS = 48
MOST_COPIES = 8
MOST_BACK = 4
MOST_NAME = 8
LOOK_CELLS = 16

LINE_END = 10
BLANK = 32
NAME_LETTERS = "ABCDEFGHIJKLMNOPQRSTUVWXYZ0123456789"
LOOK_LETTERS = "0123456789abcdef"
SHAPES = ("square", "tails", "long")

# Numbered in the order in which they stand in a locker, so that comparing them judges it.
SIGN = 0
SAME = 1
ANSWER = 2


# The name is a sign's, else empty; back is a same's number K, else 0. The design is the words of
# shape and look as they stand in the text: each look is written in one way only, so words suffice.
class Kind:
    def __init__(self, role, name, back, copies, design):
        self.role = role
        self.name = name
        self.back = back
        self.copies = copies
        self.design = design


def codes(letters):
    return [ord(letter) for letter in letters]


# Empty parts are kept: by them a blank too many and an empty line are found out.
def split_at(row, mark):
    parts = []
    part = []
    for byte in row:
        if byte == mark:
            parts.append(part)
            part = []
        else:
            part.append(byte)
    parts.append(part)
    return parts


def made_of(word, letters):
    allowed = codes(letters)
    for byte in word:
        if byte not in allowed:
            return False
    return True


def is_name(word):
    return len(word) >= 1 and len(word) <= MOST_NAME and made_of(word, NAME_LETTERS)


def is_look(word):
    return len(word) == LOOK_CELLS and made_of(word, LOOK_LETTERS)


def is_shape(word):
    for shape in SHAPES:
        if word == codes(shape):
            return True
    return False


def digit_of(word, most):
    if len(word) != 1:
        return 0
    value = word[0] - ord("0")
    if value >= 1 and value <= most:
        return value
    return 0


def is_locker_line(words):
    return len(words) == 2 and words[0] == codes("locker") and is_name(words[1])


# The rest is the words of copies, shape and look, with which the lines of all kinds end.
def made_kind(role, name, back, rest):
    if len(rest) != 3:
        return None
    copies = digit_of(rest[0], MOST_COPIES)
    if copies == 0 or not is_shape(rest[1]) or not is_look(rest[2]):
        return None
    return Kind(role, name, back, copies, rest[1:])


def read_kind(words):
    if words[0] == codes("answer"):
        return made_kind(ANSWER, [], 0, words[1:])
    if len(words) < 2:
        return None
    if words[0] == codes("sign") and is_name(words[1]):
        return made_kind(SIGN, words[1], 0, words[2:])
    back = digit_of(words[1], MOST_BACK)
    if words[0] == codes("same") and back > 0:
        return made_kind(SAME, [], back, words[2:])
    return None


# The last kind is enough to look at: those before it are in order already.
def in_order(kinds, kind):
    if len(kinds) == 0:
        return True
    last = kinds[-1]
    if kind.role != last.role:
        return kind.role > last.role
    if kind.role == SAME:
        return kind.back > last.back
    return kind.role == SIGN


def is_new(kinds, kind):
    for before in kinds:
        if kind.role == SIGN and before.name == kind.name:
            return False
        if before.design == kind.design:
            return False
    return True


def fits(kinds, kind):
    # A sign that is in order has nothing but signs before it, so kinds counts them.
    if kind.role == SIGN and len(kinds) >= MOST_SIGNS:
        return False
    return in_order(kinds, kind) and is_new(kinds, kind)


def read_kinds(lines):
    kinds = []
    for line in lines:
        kind = read_kind(split_at(line, BLANK))
        if kind is None or not fits(kinds, kind):
            return None
        kinds.append(kind)
    # Signs stand first: if the first kind is none, there is none at all.
    if len(kinds) == 0 or kinds[0].role != SIGN:
        return None
    return kinds


def is_too_long(t):
    return len(t) > MOST_BYTES


def read_locker(t):
    if is_too_long(t):
        return None
    lines = split_at(t, LINE_END)
    # What stands behind the last byte 10 would be a line whose byte 10 is missing.
    if len(lines.pop()) > 0 or len(lines) == 0:
        return None
    if not is_locker_line(split_at(lines[0], BLANK)):
        return None
    return read_kinds(lines[1:])
