"""means against a second telling of the document, over many hoists and many spoilt texts."""

import itertools
import random
import unittest

from flaghoistsdesk.locker import means
from reference import expected
from texts import FULL, answer, same, sign, text


class AgainstReference(unittest.TestCase):
    def check(self, t, hoist):
        self.assertEqual(means(t, hoist), expected(t, hoist), (bytes(t[:3000]), hoist))

    def test_all_short_hoists(self):
        t = text("locker L", sign("X", 1), sign("Y", 2, 3), same(1, 3, 2), same(3, 4), answer(5))
        for size in range(6):
            for hoist in itertools.product(range(6), repeat=size):
                self.check(t, list(hoist))

    def test_long_hoists(self):
        chance = random.Random(1)
        for turn in range(3000):
            size = chance.choice((0, 1, 4, 5, 6, 7, 8, 8, 8, 9, 20))
            most = chance.choice((9, 9, 9, 10, 11, 256))
            self.check(FULL, [chance.randrange(most) for flag in range(size)])

    def test_each_byte_of_a_text_changed(self):
        t = text("locker L", sign("X", 1), sign("Y", 2), same(1, 3), same(2, 0x13), answer(5))
        for place in range(len(t)):
            for byte in list(b"\n\r\t 0123456789:/@AXYZ[`aefgz{") + [0, 127, 128, 255]:
                self.check(t[:place] + [byte] + t[place + 1:], [0, 1, 2])
            self.check(t[:place] + t[place + 1:], [0, 1, 2])
            self.check(t[:place], [0, 1, 2])

    def test_lines_shuffled_dropped_and_doubled(self):
        chance = random.Random(2)
        lines = ["locker L", sign("X", 1), sign("Y", 2), sign("X", 6), same(1, 3), same(2, 4), same(2, 7), answer(5),
                 answer(8), sign("Z", 1), sign("Z", 1, 1, "long")]
        for turn in range(4000):
            chosen = sorted(chance.randrange(len(lines)) for line in range(chance.randrange(7)))
            if chance.randrange(3) == 0:
                chance.shuffle(chosen)
            if chance.randrange(4) > 0:
                chosen = [0] + [n for n in chosen if n > 0]
            self.check(text(*[lines[n] for n in chosen]), [0, 1, 2][:chance.randrange(1, 4)])


if __name__ == "__main__":
    unittest.main()
