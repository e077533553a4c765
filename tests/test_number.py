import itertools
import random
import unittest

from cases import AnswerCase, EachCallByItself
from flaghoistsdesk.locker import many, nth, number
from reference import number_without_sames, rows_shown
from texts import A, ANSWER, B, C, D, E, FULL, NO_KIND, SAME1, SAME2, SAME3, SAME4
from texts import locker, rows_of_great_lockers, same, sign, six_sign_lockers, small_lockers, text


class NumberCase(AnswerCase):
    def check(self, t, row, answered):
        self.check_answer(number(list(t), list(row)), answered, row)

    def check_rows(self, t, m, rows):
        """These are all rows of m signs, in their order; no other list of m signs has a number."""
        signs = bytes(t).count(b"\nsign ")
        for row in itertools.product(range(signs), repeat=m):
            row = list(row)
            self.check(t, row, [0, rows.index(row)] if row in rows else [-5])


class OrdinaryRows(NumberCase):
    def test_no_sames_and_one_copy(self):
        t = locker([1, 1, 1])
        self.check_rows(t, 1, [[0], [1], [2]])
        self.check_rows(t, 2, [[0, 1], [0, 2], [1, 0], [1, 2], [2, 0], [2, 1]])
        self.check_rows(t, 3, [[0, 1, 2], [0, 2, 1], [1, 0, 2], [1, 2, 0], [2, 0, 1], [2, 1, 0]])
        self.check_rows(t, 4, [])

    def test_no_sames_and_more_copies(self):
        self.check_rows(locker([2, 1]), 2, [[0, 0], [0, 1], [1, 0]])
        self.check_rows(locker([2, 1]), 3, [[0, 0, 1], [0, 1, 0], [1, 0, 0]])
        self.check_rows(locker([1, 8]), 4, [[0, 1, 1, 1], [1, 0, 1, 1], [1, 1, 0, 1], [1, 1, 1, 0], [1, 1, 1, 1]])

    def test_one_same(self):
        t = locker([1, 1], [(1, 1)])
        self.check_rows(t, 2, [[0, 0], [0, 1], [1, 0], [1, 1]])
        self.check_rows(t, 3, [[0, 0, 1], [0, 1, 0], [1, 0, 1], [1, 1, 0]])
        self.check_rows(t, 4, [])

    def test_several_sames(self):
        t = locker([1, 1], [(1, 1), (2, 1)])
        self.check_rows(t, 4, [[0, 0, 0, 1], [0, 0, 1, 0], [0, 1, 0, 1], [0, 1, 1, 0],
                               [1, 0, 0, 1], [1, 0, 1, 0], [1, 1, 0, 1], [1, 1, 1, 0]])
        self.check(locker([1], [(1, 1), (2, 1), (3, 1)]), [0, 0, 0, 0], [0, 0])

    def test_first_and_last(self):
        t = locker([1] * 5)
        self.check(t, [0, 1, 2, 3], [0, 0])
        self.check(t, [2, 3, 0, 1], [0, 60])
        self.check(t, [4, 3, 2, 1], [0, 119])
        # Ahead of it: A A A and any sign, A A B A, A A B B.
        self.check(FULL, [A, A, B, C], [0, 7])
        for m in (1, 2, 3, 4):
            self.check(FULL, [E] * m, [0, many(m, FULL)[1] - 1])

    def test_answer_or_none(self):
        for row in itertools.product(range(2), repeat=3):
            self.assertEqual(number(locker([1, 2], [(1, 1)], [8]), list(row)),
                             number(locker([1, 2], [(1, 1)]), list(row)))

    def test_ordered_by_numbers_not_by_names(self):
        t = text("locker L", sign("Z", 1), sign("A", 2), same(1, 3))
        self.check_rows(t, 2, [[0, 0], [0, 1], [1, 0], [1, 1]])


class Lengths(NumberCase):
    def test_none_one_four_five_and_twenty(self):
        self.check(FULL, [], [-1])
        self.check(FULL, [D], [0, 3])
        self.check(FULL, [A, A, B, A], [0, 5])
        self.check(FULL, [E] * 4, [0, many(4, FULL)[1] - 1])
        self.check(FULL, [E] * 5, [-1])
        self.check(FULL, [A, B, C, D, E], [-1])
        self.check(FULL, [E] * 8, [-1])
        self.check(FULL, [E] * 20, [-1])


class Numbers(NumberCase):
    def test_just_below_and_just_at_the_number_of_signs(self):
        self.check(FULL, [E], [0, 4])
        self.check(FULL, [SAME1], [-4])
        self.check(locker([1]), [0], [0, 0])
        self.check(locker([1]), [1], [-4])
        self.check(locker([1] * 48), [47], [0, 47])
        self.check(locker([1] * 48), [48], [-4])

    def test_numbers_of_sames_and_the_answer(self):
        for flag in (SAME1, SAME2, SAME3, SAME4, ANSWER, NO_KIND, 255):
            self.check(FULL, [flag], [-4])
            self.check(FULL, [A, B, flag], [-4])
            self.check(FULL, [flag, A, B, C], [-4])


class NotShown(NumberCase):
    def test_rows(self):
        self.check(locker([1]), [0, 0], [-5])
        self.check(locker([1, 1], [(1, 1)]), [0, 1, 1], [-5])
        self.check(locker([1, 1], [(1, 1)]), [0, 0, 0], [-5])
        self.check(locker([1, 1], [(2, 8), (3, 8), (4, 8)]), [0, 0], [-5])
        self.check(locker([1, 1], [(1, 3), (2, 2)]), [0, 0, 1, 1], [-5])


class OrderOfRefusals(NumberCase):
    ROWS = ([], [A], [B, B], [NO_KIND], [255] * 5, [E] * 20)

    def test_text_too_long_comes_first(self):
        for row in self.ROWS:
            self.check([10] * 65537, row, [-2])
            self.check(FULL + [10] * 65537, row, [-2])

    def test_no_locker_comes_before_the_row(self):
        for row in self.ROWS:
            self.check([], row, [-6])
            self.check(FULL[:-1], row, [-6])
            self.check(text("locker L"), row, [-6])
            self.check([10] * 65536, row, [-6])

    def test_length_before_number(self):
        self.check(FULL, [SAME1] * 5, [-1])
        self.check(FULL, [A, B, C, D, 255], [-1])

    def test_length_before_not_shown(self):
        self.check(locker([1]), [0] * 5, [-1])

    def test_number_before_not_shown(self):
        self.check(locker([1]), [0, 0, 1], [-4])
        self.check(locker([1]), [255, 0, 0], [-4])
        self.check(locker([1], [(4, 8)]), [0, 0, 0, 1], [-4])

    def test_all_three(self):
        self.check(locker([1]), [0, 0, 0, 0, 1], [-1])


class AgainstSearch(NumberCase):
    def test_small_lockers(self):
        for t in small_lockers(10, 30):
            for m in (1, 2, 3, 4):
                self.check_rows(t, m, rows_shown(t, m))

    def test_more_signs(self):
        for t in six_sign_lockers():
            self.check_rows(t, 3, rows_shown(t, 3))


class Greatest(NumberCase):
    def check_soon(self, t, row, answered):
        self.check_within(2, lambda: self.check(t, row, answered))

    def test_all_rows_shown(self):
        chance = random.Random(11)
        rows = [[0, 0, 0, 0], [0, 0, 0, 47], [0, 47, 47, 47], [47, 47, 47, 47]]
        rows += [[chance.randrange(48) for place in range(4)] for turn in range(5)]
        for t in (locker([8] * 48, [(1, 8), (2, 8), (3, 8), (4, 8)], [8]),
                  locker([1 + n % 4 for n in range(48)], [(1, 1), (2, 1), (3, 1)])):
            for a, b, c, d in rows:
                self.check_soon(t, [a, b, c, d], [0, ((a * 48 + b) * 48 + c) * 48 + d])

    def test_copies_without_sames(self):
        for copies, row in rows_of_great_lockers(12):
            self.check_soon(locker(copies), row, [0, number_without_sames(row, copies)])
        self.check_soon(locker([3] * 48), [47] * 4, [-5])
        self.check_soon(locker([1] * 48), [47, 46, 45, 47], [-5])

    def test_rows_of_three_with_sames(self):
        t = locker([1 + n * 5 % 3 for n in range(48)], [(2, 2)], [1])
        rows = rows_shown(t, 3)
        for i in list(range(0, len(rows), 3001)) + [len(rows) - 1]:
            self.check_soon(t, rows[i], [0, i])


class NumberByItself(EachCallByItself, unittest.TestCase):
    call = staticmethod(number)
    CASES = ((FULL, [A]), (FULL, [E, A, E, A]), (FULL, [B, C, C, C]), (FULL, [NO_KIND]), (FULL, []), (FULL, [A] * 5),
             (FULL[:-1], [A]), ([], [A]), ([10] * 65537, [A]), (locker([1, 1], [(1, 1)]), [1, 1]))

    def test_answer_after_other_lockers(self):
        first = number(FULL, [E, D, E, B])
        number(locker([1] * 48), [3, 2, 1, 0])
        nth(4, 7, locker([8]))
        self.assertEqual(number(FULL, [E, D, E, B]), first)


if __name__ == "__main__":
    unittest.main()
