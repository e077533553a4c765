"""The calls on a locker that is told by its text.

Flags are told by their kinds' numbers: kinds is a list, in which a flag's number is its kind's place.
Functions that look for a flag's place give -1 where there is none such.
"""

from flaghoistsdesk.reading import SAME, SIGN, is_too_long, read_locker

TEXT_TOO_LONG = -2
NO_LOCKER = -6
BAD_LENGTH = -1
NO_SUCH_NUMBER = -4
MEANS_NOTHING = -9
TOO_FEW_COPIES = -3
NOT_SHOWN = -5

MOST_FLAGS = 8
MOST_HOISTS = 4
MOST_COUNTED = 4


def text_refusal(t):
    if is_too_long(t):
        return [TEXT_TOO_LONG]
    return [NO_LOCKER]


def unknown_place(kinds, h):
    for place, flag in enumerate(h):
        if flag >= len(kinds):
            return place
    return -1


# The row ends ahead of the first flag that means nothing: flags below it may hang on what it means.
def meant_row(kinds, h):
    row = []
    for flag in h:
        kind = kinds[flag]
        if kind.role == SIGN:
            row.append(flag)
        elif kind.role == SAME and kind.back <= len(row):
            row.append(row[kind.back - 1])
        else:
            return row
    return row


def lacking_place(kinds, h):
    for place, flag in enumerate(h):
        if h[:place + 1].count(flag) > kinds[flag].copies:
            return place
    return -1


def means_in(kinds, h):
    if len(h) == 0 or len(h) > MOST_FLAGS:
        return [BAD_LENGTH]
    unknown = unknown_place(kinds, h)
    if unknown >= 0:
        return [NO_SUCH_NUMBER, unknown]
    row = meant_row(kinds, h)
    if len(row) < len(h):
        # The flags above the first that means nothing mean a sign each, so their count is its place.
        return [MEANS_NOTHING, len(row)]
    lacking = lacking_place(kinds, h)
    if lacking >= 0:
        return [TOO_FEW_COPIES, lacking]
    return [len(row)] + row


def means(t, h):
    kinds = read_locker(t)
    if kinds is None:
        return text_refusal(t)
    return means_in(kinds, h)


def sign_count(kinds):
    return len([kind for kind in kinds if kind.role == SIGN])


# Signs are numbered ahead of all other kinds.
def are_signs(kinds, row):
    signs = sign_count(kinds)
    for sign in row:
        if sign >= signs:
            return False
    return True


def are_lengths(lens, signs):
    if len(lens) == 0 or len(lens) > MOST_HOISTS:
        return False
    for length in lens:
        if length == 0 or length > MOST_FLAGS:
            return False
    return sum(lens) == len(signs)


# What a same means hangs on the row alone, not on which flags above show it: so each place has its
# choices whatever goes up elsewhere. They rise: the sign's own flag, then sames.
def choices_at(kinds, row, place):
    choices = [row[place]]
    for flag, kind in enumerate(kinds):
        if kind.role == SAME and kind.back <= place and row[kind.back - 1] == row[place]:
            choices.append(flag)
    return choices


def row_choices(kinds, row):
    return [choices_at(kinds, row, place) for place in range(len(row))]


def all_choices(kinds, lens, signs):
    wanted = []
    start = 0
    for length in lens:
        wanted.extend(row_choices(kinds, signs[start:start + length]))
        start = start + length
    return wanted


def same_sets(kinds):
    sets = [[]]
    for flag, kind in enumerate(kinds):
        if kind.role == SAME:
            sets = sets + [chosen + [flag] for chosen in sets]
    return sets


def copies_of(kinds):
    return [kind.copies for kind in kinds]


def is_within(flags, chosen):
    for flag in flags:
        if flag not in chosen:
            return False
    return True


# Of the places that no same but the chosen ones can show: how many are left when the signs' own
# flags have gone up there as far as they reach.
def bound_to(wanted, left, chosen):
    counts = {}
    for choices in wanted:
        if is_within(choices[1:], chosen):
            counts[choices[0]] = counts.get(choices[0], 0) + 1
    return sum([max(0, counts[sign] - left[sign]) for sign in counts])


# That no set of sames is asked for more than its copies is needed; by Hall's theorem it is enough too.
def can_fill(wanted, left, sets):
    for chosen in sets:
        if bound_to(wanted, left, chosen) > sum([left[flag] for flag in chosen]):
            return False
    return True


def without(left, flag):
    after = list(left)
    after[flag] = after[flag] - 1
    return after


# A same goes up only where the own flag, if one is left, leaves some place below without any: then
# all own flags left are needed below. So taking the first that goes makes the sames fewest too.
def first_flag(choices, below, left, sets):
    for flag in choices:
        if left[flag] > 0 and can_fill(below, without(left, flag), sets):
            return flag
    return -1


# None if nothing shows the rows; that is found out at the first place already.
def told_flags(kinds, wanted):
    sets = same_sets(kinds)
    left = copies_of(kinds)
    flags = []
    for place, choices in enumerate(wanted):
        flag = first_flag(choices, wanted[place + 1:], left, sets)
        if flag < 0:
            return None
        flags.append(flag)
        left = without(left, flag)
    return flags


def shows_in(kinds, lens, signs):
    if not are_lengths(lens, signs):
        return [BAD_LENGTH]
    if not are_signs(kinds, signs):
        return [NO_SUCH_NUMBER]
    flags = told_flags(kinds, all_choices(kinds, lens, signs))
    if flags is None:
        return [NOT_SHOWN]
    sames = [flag for flag in flags if kinds[flag].role == SAME]
    return [len(flags), len(sames)] + flags


def shows(t, lens, signs):
    kinds = read_locker(t)
    if kinds is None:
        return text_refusal(t)
    return shows_in(kinds, lens, signs)


def can_show(kinds, row):
    return can_fill(row_choices(kinds, row), copies_of(kinds), same_sets(kinds))


# How many rows of m signs begin with the row and are shown by a hoist alone.
def rows_from(kinds, row, m):
    # What shows a longer row shows, cut off, what it begins with.
    if not can_show(kinds, row):
        return 0
    if len(row) == m:
        return 1
    return sum(counts_by_next(kinds, row, m))


# For each sign: how many of these rows go on with it. Whether a row can be shown hangs on where it
# has equal signs and on their copies, not on which signs they are: so of signs that are new to the
# row one stands for all with as many copies, and more copies than m are as good as m.
def counts_by_next(kinds, row, m):
    counts = []
    alike = {}
    for sign in range(sign_count(kinds)):
        if sign in row:
            counts.append(rows_from(kinds, row + [sign], m))
        else:
            copies = min(kinds[sign].copies, m)
            if copies not in alike:
                alike[copies] = rows_from(kinds, row + [sign], m)
            counts.append(alike[copies])
    return counts


def is_counted(m):
    return m >= 1 and m <= MOST_COUNTED


def many_in(kinds, m):
    if not is_counted(m):
        return [BAD_LENGTH]
    return [0, rows_from(kinds, [], m)]


def many(m, t):
    kinds = read_locker(t)
    if kinds is None:
        return text_refusal(t)
    return many_in(kinds, m)


# There must be more than i rows of m signs.
def numbered_row(kinds, m, i):
    row = []
    left = i
    while len(row) < m:
        counts = counts_by_next(kinds, row, m)
        sign = 0
        # The rows that go on with a lesser sign all come before.
        while left >= counts[sign]:
            left = left - counts[sign]
            sign = sign + 1
        row.append(sign)
    return row


def nth_in(kinds, m, i):
    if not is_counted(m):
        return [BAD_LENGTH]
    if i >= rows_from(kinds, [], m):
        return [NO_SUCH_NUMBER]
    return [m] + numbered_row(kinds, m, i)


def nth(m, i, t):
    kinds = read_locker(t)
    if kinds is None:
        return text_refusal(t)
    return nth_in(kinds, m, i)


def rows_before(kinds, row):
    before = 0
    for place, sign in enumerate(row):
        lesser = counts_by_next(kinds, row[:place], len(row))[:sign]
        before = before + sum(lesser)
    return before


def number_in(kinds, row):
    if not is_counted(len(row)):
        return [BAD_LENGTH]
    if not are_signs(kinds, row):
        return [NO_SUCH_NUMBER]
    if not can_show(kinds, row):
        return [NOT_SHOWN]
    return [0, rows_before(kinds, row)]


def number(t, row):
    kinds = read_locker(t)
    if kinds is None:
        return text_refusal(t)
    return number_in(kinds, row)
