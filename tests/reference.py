"""A second telling of the document, by plain searches: what the calls are to answer."""

import functools
import itertools
import math
import re

NAME = rb"[A-Z0-9]{1,8}"
TAIL = rb"([1-8]) ((?:square|tails|long) [0-9a-f]{16})\n"
WHOLE = re.compile(
    rb"locker " + NAME + rb"\n(?:sign " + NAME + rb" " + TAIL + rb"){1,48}(?:same [1-4] " + TAIL + rb")*(?:answer "
    + TAIL + rb")?"
)
SIGN = re.compile(rb"^sign (" + NAME + rb") " + TAIL, re.MULTILINE)
SAME = re.compile(rb"^same ([1-4]) " + TAIL, re.MULTILINE)
ANSWER = re.compile(rb"^answer ()" + TAIL, re.MULTILINE)


def kinds_of(t):
    """(what it means, copies) for each kind: 0 for a sign, K for a same, 9 for the answer; or None."""
    t = bytes(t)
    if WHOLE.fullmatch(t) is None:
        return None
    signs, sames, answers = (part.findall(t) for part in (SIGN, SAME, ANSWER))
    names = [name for name, copies, design in signs]
    numbers = [k for k, copies, design in sames]
    designs = [design for name, copies, design in signs + sames + answers]
    if len(set(names)) < len(names) or numbers != sorted(set(numbers)) or len(set(designs)) < len(designs):
        return None
    return (
        [(0, int(copies)) for name, copies, design in signs]
        + [(int(k), int(copies)) for k, copies, design in sames]
        + [(9, int(copies)) for name, copies, design in answers]
    )


def meaning(kinds, hoist, place):
    """The sign that the flag at the place means, or None; told from the flag up, not from the top down."""
    back = kinds[hoist[place]][0]
    if back == 0:
        return hoist[place]
    if back > place:
        return None
    return meaning(kinds, hoist, back - 1)


def expected(t, hoist):
    if len(t) > 65536:
        return [-2]
    kinds = kinds_of(t)
    if kinds is None:
        return [-6]
    if not 1 <= len(hoist) <= 8:
        return [-1]
    places = range(len(hoist))
    unknown = [place for place in places if hoist[place] not in range(len(kinds))]
    if unknown:
        return [-4, min(unknown)]
    row = [meaning(kinds, hoist, place) for place in places]
    if None in row:
        return [-9, row.index(None)]
    for place in places:
        if sum(hoist[above] == hoist[place] for above in range(place + 1)) > kinds[hoist[place]][1]:
            return [-3, place]
    return [len(row)] + row


@functools.lru_cache(maxsize=None)
def hoists_by_row(kinds, size):
    """All lists of so many flags that mean a row, by that row; copies aren't looked at here."""
    found = {}
    for hoist in itertools.product(range(len(kinds)), repeat=size):
        row = tuple(meaning(kinds, hoist, place) for place in range(size))
        if None not in row:
            found.setdefault(row, []).append(hoist)
    return found


def within_copies(kinds, flags):
    return all(flags.count(flag) <= kinds[flag][1] for flag in flags)


def best_display(kinds, rows):
    """The flags of the display told, out of all lists of flags; or None."""
    hoists = [hoists_by_row(tuple(kinds), len(row)).get(tuple(row), []) for row in rows]
    displays = [sum(display, ()) for display in itertools.product(*hoists)]
    fitting = [flags for flags in displays if within_copies(kinds, flags)]
    return min(fitting, key=lambda flags: (sames_in(kinds, flags), flags), default=None)


def sames_in(kinds, flags):
    return sum(kinds[flag][0] in (1, 2, 3, 4) for flag in flags)


def best_of_many(kinds, rows):
    """As best_display, place by place, for rows that are too long for all lists of flags."""
    places = [(row, place) for row in rows for place in range(len(row))]

    @functools.lru_cache(maxsize=None)
    def best(done, left):
        if done == len(places):
            return (0, ())
        row, place = places[done]
        found = []
        for flag, (back, copies) in enumerate(kinds):
            shows = flag == row[place] if back == 0 else back <= place and row[back - 1] == row[place]
            if shows and left[flag] > 0:
                rest = best(done + 1, left[:flag] + (left[flag] - 1,) + left[flag + 1:])
                if rest is not None:
                    found.append((rest[0] + (back > 0), (flag,) + rest[1]))
        return min(found, default=None)

    told = best(0, tuple(copies for back, copies in kinds))
    return None if told is None else told[1]


def expected_shows(t, lens, signs, best=best_display):
    if len(t) > 65536:
        return [-2]
    kinds = kinds_of(t)
    if kinds is None:
        return [-6]
    if not 1 <= len(lens) <= 4 or min(lens) < 1 or max(lens) > 8 or sum(lens) != len(signs):
        return [-1]
    if any(sign >= len(kinds) or kinds[sign][0] != 0 for sign in signs):
        return [-4]
    flags = best(kinds, rows_of(lens, signs))
    return [-5] if flags is None else [len(flags), sames_in(kinds, flags)] + list(flags)


def rows_of(lens, signs):
    ends = list(itertools.accumulate(lens))
    return [signs[end - length:end] for end, length in zip(ends, lens)]


def rows_shown(t, m):
    """All rows of m signs that some hoist shows, in their order, out of all lists of m flags."""
    kinds = kinds_of(t)
    hoists = hoists_by_row(tuple(kinds), m)
    return sorted(list(row) for row in hoists if any(within_copies(kinds, hoist) for hoist in hoists[row]))


def row_count(m, unbound, copies):
    """How many rows of m signs there are with so many unbound signs, and of each other sign no more than its copies."""
    # Of each sign in turn: in how many ways it and those before it can stand at so many of the places.
    ways = [1] + [0] * m
    for most in [m] * unbound + copies:
        ways = [sum(ways[size - there] * math.comb(size, there) for there in range(min(most, size) + 1))
                for size in range(m + 1)]
    return ways[m]


def number_without_sames(row, copies):
    """How many rows come before the row in a locker with no sames whose signs have so many copies."""
    left = list(copies)
    before = 0
    for place, sign in enumerate(row):
        for lesser in range(sign):
            if left[lesser] > 0:
                rest = left[:lesser] + [left[lesser] - 1] + left[lesser + 1:]
                before += row_count(len(row) - place - 1, 0, rest)
        left[sign] -= 1
    return before
