"""What the document promises over the whole program, one call asked against another."""

import itertools
import random
import unittest

from flaghoistsdesk.locker import many, means, nth, number, shows
from reference import rows_of, within_copies
from texts import FULL, GREATEST, locker

LENGTHS = (1, 2, 3, 4)
# Each with how many signs it has.
SMALL = (
    (1, locker([1])),
    (2, locker([1, 1], [(1, 1)], [1])),
    (2, locker([1, 1], [(1, 3), (2, 2)])),
    (3, locker([1, 2, 1], [(2, 1), (4, 1)])),
    (3, locker([4, 1, 2], [(1, 1), (2, 1), (3, 1), (4, 1)], [8])),
    (4, locker([1, 1, 1, 1], [(1, 1), (3, 2)])),
)
GREAT = (
    locker([1] * 48),
    locker([1 + n % 8 for n in range(48)], [(1, 1)], [1]),
    locker([1 + n * 3 % 4 for n in range(48)], [(1, 1), (3, 1)]),
    locker([1 + n // 12 for n in range(48)], [(2, 1), (3, 2), (4, 1)]),
)


def shown(t, rows):
    return shows(t, [len(row) for row in rows], sum(rows, []))


class NumbersAndRows(unittest.TestCase):
    def check_number(self, t, m, i):
        answered = nth(m, i, t)
        self.assertEqual(answered[0], m)
        self.assertEqual(len(answered), m + 1)
        self.assertEqual(number(t, answered[1:]), [0, i])

    def test_row_of_a_number_has_it(self):
        for signs, t in SMALL:
            for m in LENGTHS:
                for i in range(many(m, t)[1]):
                    self.check_number(t, m, i)

    def test_row_of_a_number_has_it_in_great_lockers(self):
        chance = random.Random(13)
        for t in GREAT + (FULL,):
            for m in LENGTHS:
                count = many(m, t)[1]
                for i in [0, 1, count // 2, count - 1] + [chance.randrange(count) for turn in range(4)]:
                    self.check_number(t, m, i)

    def test_number_of_a_row_gives_it(self):
        chance = random.Random(14)
        numbered = 0
        for t in GREAT:
            for turn in range(20):
                row = [chance.choice((3, 7, 20, 47)) for place in range(chance.choice(LENGTHS))]
                answered = number(t, row)
                self.assertEqual(answered == [-5], shown(t, [row]) == [-5])
                if answered[0] == 0:
                    self.assertEqual(nth(len(row), answered[1], t), [len(row)] + row)
                    numbered += 1
        self.assertGreater(numbered, 20)

    def test_as_many_numbers_as_many_tells(self):
        for signs, t in SMALL:
            for m in LENGTHS:
                answers = [number(t, list(row)) for row in itertools.product(range(signs), repeat=m)]
                numbers = [answered[1] for answered in answers if answered != [-5]]
                self.assertEqual(numbers, list(range(many(m, t)[1])))

    def test_no_row_has_a_number_from_many_on(self):
        for t in GREAT + tuple(t for signs, t in SMALL):
            for m in LENGTHS:
                for i in (many(m, t)[1], many(m, t)[1] + 1, GREATEST):
                    self.assertEqual(nth(m, i, t), [-4])

    def test_rows_are_in_order(self):
        for t in GREAT:
            rows = [nth(4, i, t) for i in range(0, many(4, t)[1], 400001)]
            self.assertEqual(rows, sorted(rows))
            self.assertGreater(len(rows), 10)

    def test_numbered_rows_are_shown_and_others_not(self):
        for signs, t in SMALL:
            for m in LENGTHS:
                for row in itertools.product(range(signs), repeat=m):
                    self.assertEqual(number(t, list(row)) == [-5], shown(t, [list(row)]) == [-5])


class Displays(unittest.TestCase):
    SIGNS = [2, 1, 1, 3]
    SAMES = [(1, 2), (2, 1), (3, 2)]
    T = locker(SIGNS, SAMES, [1])
    KINDS = [(0, copies) for copies in SIGNS] + SAMES + [(9, 1)]

    def some_rows(self, seed):
        chance = random.Random(seed)
        for turn in range(400):
            yield [[chance.randrange(4) for place in range(chance.randint(1, 4))] for row in range(chance.randint(1, 4))]

    def test_what_is_told_means_its_rows(self):
        told = 0
        for rows in self.some_rows(15):
            answered = shown(self.T, rows)
            if answered == [-5]:
                continue
            told += 1
            flags = answered[2:]
            self.assertTrue(within_copies(self.KINDS, flags))
            self.assertEqual(answered[:2], [len(flags), len([flag for flag in flags if flag >= len(self.SIGNS)])])
            for hoist, row in zip(rows_of([len(row) for row in rows], flags), rows):
                self.assertEqual(means(self.T, hoist), [len(row)] + row)
        self.assertGreater(told, 50)

    def test_what_is_shown_beside_others_is_shown_alone(self):
        together = 0
        for rows in self.some_rows(16):
            if len(rows) == 1 or shown(self.T, rows) == [-5]:
                continue
            together += 1
            for row in rows:
                self.assertEqual(shown(self.T, [row])[0], len(row))
                self.assertEqual(number(self.T, row)[0], 0)
        self.assertGreater(together, 50)

    def test_different_signs_are_shown_by_their_own_flags(self):
        for signs, t in SMALL:
            for m in range(1, signs + 1):
                for row in itertools.permutations(range(signs), m):
                    self.assertEqual(shown(t, [list(row)]), [m, 0] + list(row))
                    self.assertEqual(means(t, list(row)), [m] + list(row))
                    self.assertEqual(number(t, list(row))[0], 0)


if __name__ == "__main__":
    unittest.main()
