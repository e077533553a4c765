"""means against a second telling of the document, over many hoists and many spoilt texts."""

import itertools
import random
import re
import unittest

from flaghoistsdesk.locker import means
from texts import FULL, answer, same, sign, text

NAME = rb"[A-Z0-9]{1,8}"
TAIL = rb"([1-8]) ((?:square|tails|long) [0-9a-f]{16})\n"
WHOLE = re.compile(
    rb"locker " + NAME + rb"\n(?:sign " + NAME + rb" " + TAIL + rb"){1,48}(?:same [1-4] " + TAIL + rb")*(?:answer "
    + TAIL + rb")?"
)
SIGN = re.compile(rb"^sign (" + NAME + rb") " + TAIL, re.MULTILINE)
SAME = re.compile(rb"^same ([1-4]) " + TAIL, re.MULTILINE)
ANSWER = re.compile(rb"^answer ()" + TAIL, re.MULTILINE)


def kinds_of(t):
    """(what it means, copies) for each kind: 0 for a sign, K for a same, 9 for the answer; or None."""
    t = bytes(t)
    if WHOLE.fullmatch(t) is None:
        return None
    signs, sames, answers = (part.findall(t) for part in (SIGN, SAME, ANSWER))
    names = [name for name, copies, design in signs]
    numbers = [k for k, copies, design in sames]
    designs = [design for name, copies, design in signs + sames + answers]
    if len(set(names)) < len(names) or numbers != sorted(set(numbers)) or len(set(designs)) < len(designs):
        return None
    return (
        [(0, int(copies)) for name, copies, design in signs]
        + [(int(k), int(copies)) for k, copies, design in sames]
        + [(9, int(copies)) for name, copies, design in answers]
    )


def meaning(kinds, hoist, place):
    """The sign that the flag at the place means, or None; told from the flag up, not from the top down."""
    back = kinds[hoist[place]][0]
    if back == 0:
        return hoist[place]
    if back > place:
        return None
    return meaning(kinds, hoist, back - 1)


def expected(t, hoist):
    if len(t) > 65536:
        return [-2]
    kinds = kinds_of(t)
    if kinds is None:
        return [-6]
    if not 1 <= len(hoist) <= 8:
        return [-1]
    places = range(len(hoist))
    unknown = [place for place in places if hoist[place] not in range(len(kinds))]
    if unknown:
        return [-4, min(unknown)]
    row = [meaning(kinds, hoist, place) for place in places]
    if None in row:
        return [-9, row.index(None)]
    for place in places:
        if sum(hoist[above] == hoist[place] for above in range(place + 1)) > kinds[hoist[place]][1]:
            return [-3, place]
    return [len(row)] + row


class AgainstReference(unittest.TestCase):
    def check(self, t, hoist):
        self.assertEqual(means(t, hoist), expected(t, hoist), (bytes(t[:3000]), hoist))

    def test_all_short_hoists(self):
        t = text("locker L", sign("X", 1), sign("Y", 2, 3), same(1, 3, 2), same(3, 4), answer(5))
        for size in range(6):
            for hoist in itertools.product(range(6), repeat=size):
                self.check(t, list(hoist))

    def test_long_hoists(self):
        chance = random.Random(1)
        for turn in range(3000):
            size = chance.choice((0, 1, 4, 5, 6, 7, 8, 8, 8, 9, 20))
            most = chance.choice((9, 9, 9, 10, 11, 256))
            self.check(FULL, [chance.randrange(most) for flag in range(size)])

    def test_each_byte_of_a_text_changed(self):
        t = text("locker L", sign("X", 1), sign("Y", 2), same(1, 3), same(2, 0x13), answer(5))
        for place in range(len(t)):
            for byte in list(b"\n\r\t 0123456789:/@AXYZ[`aefgz{") + [0, 127, 128, 255]:
                self.check(t[:place] + [byte] + t[place + 1:], [0, 1, 2])
            self.check(t[:place] + t[place + 1:], [0, 1, 2])
            self.check(t[:place], [0, 1, 2])

    def test_lines_shuffled_dropped_and_doubled(self):
        chance = random.Random(2)
        lines = ["locker L", sign("X", 1), sign("Y", 2), sign("X", 6), same(1, 3), same(2, 4), same(2, 7), answer(5),
                 answer(8), sign("Z", 1), sign("Z", 1, 1, "long")]
        for turn in range(4000):
            chosen = sorted(chance.randrange(len(lines)) for line in range(chance.randrange(7)))
            if chance.randrange(3) == 0:
                chance.shuffle(chosen)
            if chance.randrange(4) > 0:
                chosen = [0] + [n for n in chosen if n > 0]
            self.check(text(*[lines[n] for n in chosen]), [0, 1, 2][:chance.randrange(1, 4)])


if __name__ == "__main__":
    unittest.main()
