import itertools
import random
import unittest

from cases import AnswerCase, EachCallByItself
from flaghoistsdesk.locker import many, nth, shows
from reference import number_without_sames, row_count, rows_shown
from texts import FULL, GREATEST, locker, rows_of_great_lockers, same, sign, six_sign_lockers, small_lockers, text


class NthCase(AnswerCase):
    def check(self, t, m, i, answered):
        self.check_answer(nth(m, i, list(t)), answered, (m, i))

    def check_rows(self, t, m, rows):
        """These are all rows of m signs, in their order."""
        for i, row in enumerate(rows):
            self.check(t, m, i, [m] + row)
        for i in (len(rows), len(rows) + 1, GREATEST):
            self.check(t, m, i, [-4])


class OrdinaryLockers(NthCase):
    def test_no_sames_and_one_copy(self):
        t = locker([1, 1, 1])
        self.check_rows(t, 1, [[0], [1], [2]])
        self.check_rows(t, 2, [[0, 1], [0, 2], [1, 0], [1, 2], [2, 0], [2, 1]])
        self.check_rows(t, 3, [[0, 1, 2], [0, 2, 1], [1, 0, 2], [1, 2, 0], [2, 0, 1], [2, 1, 0]])

    def test_no_sames_and_more_copies(self):
        self.check_rows(locker([2, 1]), 2, [[0, 0], [0, 1], [1, 0]])
        self.check_rows(locker([2, 1]), 3, [[0, 0, 1], [0, 1, 0], [1, 0, 0]])
        self.check_rows(locker([3, 1]), 4, [[0, 0, 0, 1], [0, 0, 1, 0], [0, 1, 0, 0], [1, 0, 0, 0]])
        self.check_rows(locker([1, 8]), 4, [[0, 1, 1, 1], [1, 0, 1, 1], [1, 1, 0, 1], [1, 1, 1, 0], [1, 1, 1, 1]])

    def test_one_same(self):
        t = locker([1, 1], [(1, 1)])
        self.check_rows(t, 2, [[0, 0], [0, 1], [1, 0], [1, 1]])
        self.check_rows(t, 3, [[0, 0, 1], [0, 1, 0], [1, 0, 1], [1, 1, 0]])
        self.check_rows(locker([1, 1, 1], [(2, 8)]), 3,
                        [[0, 1, 1], [0, 1, 2], [0, 2, 1], [0, 2, 2], [1, 0, 0], [1, 0, 2], [1, 2, 0], [1, 2, 2],
                         [2, 0, 0], [2, 0, 1], [2, 1, 0], [2, 1, 1]])

    def test_several_sames(self):
        t = locker([1, 1], [(1, 1), (2, 1)])
        self.check_rows(t, 3, [list(row) for row in itertools.product(range(2), repeat=3)])
        self.check_rows(t, 4, [[0, 0, 0, 1], [0, 0, 1, 0], [0, 1, 0, 1], [0, 1, 1, 0],
                               [1, 0, 0, 1], [1, 0, 1, 0], [1, 1, 0, 1], [1, 1, 1, 0]])
        self.check_rows(locker([1], [(1, 1), (2, 1), (3, 1)]), 4, [[0, 0, 0, 0]])

    def test_row_that_many_hoists_show_has_one_number(self):
        t = locker([8, 8], [(1, 8), (2, 8), (3, 8), (4, 8)])
        for m in (1, 2, 3, 4):
            self.check_rows(t, m, [list(row) for row in itertools.product(range(2), repeat=m)])

    def test_answer_or_none(self):
        for i in range(9):
            self.assertEqual(nth(3, i, locker([1, 2], [(1, 1)], [8])), nth(3, i, locker([1, 2], [(1, 1)])))

    def test_start_middle_and_end(self):
        t = locker([1] * 5)
        self.check(t, 4, 0, [4, 0, 1, 2, 3])
        self.check(t, 4, 1, [4, 0, 1, 2, 4])
        self.check(t, 4, 59, [4, 2, 1, 4, 3])
        self.check(t, 4, 60, [4, 2, 3, 0, 1])
        self.check(t, 4, 119, [4, 4, 3, 2, 1])

    def test_ordered_by_numbers_not_by_names(self):
        t = text("locker L", sign("Z", 1), sign("A", 2), same(1, 3))
        self.check_rows(t, 1, [[0], [1]])
        self.check_rows(t, 2, [[0, 0], [0, 1], [1, 0], [1, 1]])


class Numbers(NthCase):
    def test_first(self):
        for m in (1, 2, 3, 4):
            self.check(locker([8]), m, 0, [m] + [0] * m)

    def test_one_below_and_just_how_many_there_are(self):
        for t in (locker([1] * 6), locker([1, 2, 3], [(1, 1)]), FULL):
            for m in (1, 2, 3, 4):
                count = many(m, t)[1]
                self.assertEqual(nth(m, count - 1, t)[0], m)
                self.check(t, m, count, [-4])
        self.check(locker([1] * 6), 4, 359, [4, 5, 4, 3, 2])
        self.check(locker([1] * 6), 4, 360, [-4])

    def test_great_ones(self):
        for i in (256, 65536, 4294967296, 2 ** 63, GREATEST - 1, GREATEST):
            self.check(locker([1] * 4), 4, i, [-4])

    def test_no_row_of_that_length(self):
        for i in (0, 1, GREATEST):
            self.check(locker([1]), 2, i, [-4])
            self.check(locker([1]), 4, i, [-4])
            self.check(locker([1, 1, 1], [(4, 8)]), 4, i, [-4])
        self.check(locker([1, 1, 1], [(4, 8)]), 3, 0, [3, 0, 1, 2])


class Lengths(NthCase):
    def test_none_four_and_five(self):
        t = locker([1] * 5)
        self.check(t, 0, 0, [-1])
        self.check(t, 1, 0, [1, 0])
        self.check(t, 4, 0, [4, 0, 1, 2, 3])
        self.check(t, 5, 0, [-1])

    def test_great_ones(self):
        for m in (6, 8, 255, 256, 4294967297, 2 ** 63, GREATEST - 1, GREATEST):
            self.check(FULL, m, 0, [-1])


class OrderOfRefusals(NthCase):
    def test_text_too_long_comes_first(self):
        for m in (0, 1, 5, GREATEST):
            for i in (0, GREATEST):
                self.check([10] * 65537, m, i, [-2])
                self.check(FULL + [10] * 65537, m, i, [-2])

    def test_no_locker_comes_before_length_and_number(self):
        for m in (0, 1, 5, GREATEST):
            for i in (0, GREATEST):
                self.check([], m, i, [-6])
                self.check(FULL[:-1], m, i, [-6])
                self.check(text("locker L"), m, i, [-6])
                self.check([10] * 65536, m, i, [-6])

    def test_length_before_number(self):
        for m in (0, 5, GREATEST):
            for i in (1, 5, GREATEST):
                self.check(locker([1]), m, i, [-1])


class AgainstSearch(NthCase):
    def test_small_lockers(self):
        for t in small_lockers(7, 30):
            for m in (1, 2, 3, 4):
                self.check_rows(t, m, rows_shown(t, m))

    def test_more_signs(self):
        for t in six_sign_lockers():
            self.check_rows(t, 3, rows_shown(t, 3))

    def test_those_that_shows_shows(self):
        t = locker([2, 1, 1], [(1, 1), (2, 1)])
        rows = [list(row) for row in itertools.product(range(3), repeat=4)]
        self.check_rows(t, 4, [row for row in rows if shows(t, [4], row)[0] == 4])


class Greatest(NthCase):
    def check_soon(self, t, m, i, answered):
        self.check_within(2, lambda: self.check(t, m, i, answered))

    def test_all_rows_shown(self):
        chance = random.Random(8)
        for t in (locker([8] * 48, [(1, 8), (2, 8), (3, 8), (4, 8)], [8]),
                  locker([1 + n % 4 for n in range(48)], [(1, 1), (2, 1), (3, 1)])):
            for i in [0, 1, 47, 48, 48 ** 3 - 1, 48 ** 3, 48 ** 4 - 1] + [chance.randrange(48 ** 4) for turn in range(5)]:
                self.check_soon(t, 4, i, [4, i // 48 ** 3, i // 48 ** 2 % 48, i // 48 % 48, i % 48])
            for i in (48 ** 4, GREATEST):
                self.check_soon(t, 4, i, [-4])

    def test_copies_without_sames(self):
        for copies, row in rows_of_great_lockers(9):
            self.check_soon(locker(copies), 4, number_without_sames(row, copies), [4] + row)
            self.check_soon(locker(copies), 4, row_count(4, 0, copies), [-4])

    def test_all_rows_of_two(self):
        t = locker([1 + n % 2 for n in range(48)])
        self.check_rows(t, 2, rows_shown(t, 2))

    def test_rows_of_three_with_sames(self):
        t = locker([1 + n * 5 % 3 for n in range(48)], [(2, 2)], [1])
        rows = rows_shown(t, 3)
        for i in list(range(0, len(rows), 3001)) + [len(rows) - 1]:
            self.check_soon(t, 3, i, [3] + rows[i])
        self.check_soon(t, 3, len(rows), [-4])


class NthByItself(EachCallByItself, unittest.TestCase):
    call = staticmethod(nth)
    CASES = ((1, 0, FULL), (4, 100, FULL), (4, GREATEST, FULL), (0, 0, FULL), (5, 0, FULL), (GREATEST, 0, FULL),
             (2, 0, FULL[:-1]), (2, 0, []), (2, 0, [10] * 65537), (3, 2, locker([1, 1], [(1, 1)])))


if __name__ == "__main__":
    unittest.main()
