import unittest

from cases import AnswerCase, EachCallByItself
from flaghoistsdesk.locker import many, shows
from reference import row_count, rows_shown
from texts import FULL, GREATEST, locker, same, sign, six_sign_lockers, small_lockers, text


class ManyCase(AnswerCase):
    def check(self, t, m, answered):
        self.check_answer(many(m, list(t)), answered, m)

    def check_all(self, t, counts):
        for m, count in enumerate(counts, start=1):
            self.check(t, m, [0, count])


class OrdinaryLockers(ManyCase):
    def test_no_sames_and_one_copy(self):
        self.check_all(locker([1] * 5), [5, 20, 60, 120])
        self.check_all(locker([1, 1, 1]), [3, 6, 6, 0])

    def test_no_sames_and_more_copies(self):
        self.check_all(locker([2, 2]), [2, 4, 6, 6])
        self.check_all(locker([3, 1]), [2, 3, 4, 4])
        self.check_all(locker([4, 4, 4]), [3, 9, 27, 81])
        self.check_all(locker([8, 8, 8]), [3, 9, 27, 81])

    def test_one_same(self):
        # Of two signs of one copy: what stands twice is the first sign.
        self.check_all(locker([1, 1], [(1, 1)]), [2, 4, 4, 0])
        self.check_all(locker([1, 1], [(1, 2)]), [2, 4, 6, 6])
        self.check_all(locker([1, 1], [(1, 3)]), [2, 4, 6, 8])

    def test_several_sames(self):
        # Of four flags all go up: 0101, 0110, 0010, 0001, and these with the signs exchanged.
        self.check_all(locker([1, 1], [(1, 1), (2, 1)]), [2, 4, 8, 8])
        # Not shown: 0011 and 1100, whose last sign stands above at the third place alone.
        self.check_all(locker([1, 1], [(1, 3), (2, 2)]), [2, 4, 8, 14])
        self.check_all(locker([1, 1], [(1, 1), (2, 1), (3, 1)]), [2, 4, 8, 16])

    def test_answer_or_none(self):
        for signs, sames in (([1, 1, 1], []), ([1, 2], [(1, 1)]), ([3], [(1, 1), (2, 1)])):
            for m in (1, 2, 3, 4):
                self.assertEqual(many(m, locker(signs, sames, [8])), many(m, locker(signs, sames)))

    def test_rows_that_only_a_same_can_show(self):
        self.check_all(locker([1]), [1, 0, 0, 0])
        self.check_all(locker([1], [(1, 1)]), [1, 1, 0, 0])
        self.check_all(locker([1], [(1, 2)]), [1, 1, 1, 0])
        self.check_all(locker([1], [(1, 3)]), [1, 1, 1, 1])
        self.check_all(locker([1], [(1, 1), (2, 1), (3, 1)]), [1, 1, 1, 1])

    def test_sames_whose_number_is_too_great(self):
        self.check_all(locker([1], [(2, 8), (3, 8), (4, 8)]), [1, 0, 0, 0])
        self.check_all(locker([1] * 4, [(4, 8)]), [4, 12, 24, 24])
        self.check_all(locker([1] * 4, [(3, 8)]), [4, 12, 24, 24 + 24])
        self.check_all(locker([1] * 4, [(2, 8)]), [4, 12, 24 + 12, 24 + 24 + 24 + 12])

    def test_sames_of_few_copies_and_of_many(self):
        self.check_all(locker([1, 1, 1], [(1, 1)]), [3, 9, 6 + 12, 18])
        self.check_all(locker([1, 1, 1], [(1, 8)]), [3, 9, 6 + 12 + 3, 18 + 18 + 3])

    def test_row_is_counted_once_whatever_many_hoists_show_it(self):
        self.check_all(locker([8], [(1, 8), (2, 8), (3, 8), (4, 8)]), [1, 1, 1, 1])

    def test_kinds_in_the_order_of_the_text(self):
        t = text("locker L", sign("Z", 1, 2), sign("A", 2), same(1, 3, 2), same(3, 4))
        # Not shown: 011, and of four 0101, 0110 and 0111.
        self.check_all(t, [2, 4, 7, 13])


class Lengths(ManyCase):
    def test_none_one_four_and_five(self):
        t = locker([1, 1, 1, 1, 1])
        self.check(t, 0, [-1])
        self.check(t, 1, [0, 5])
        self.check(t, 4, [0, 120])
        self.check(t, 5, [-1])

    def test_great_ones(self):
        for m in (6, 8, 255, 256, 4294967296, 4294967297, 2 ** 63, GREATEST - 1, GREATEST):
            self.check(FULL, m, [-1])

    def test_locker_of_one_sign(self):
        self.check_all(locker([1]), [1, 0, 0, 0])
        self.check_all(locker([2]), [1, 1, 0, 0])
        self.check_all(locker([3]), [1, 1, 1, 0])
        self.check_all(locker([4]), [1, 1, 1, 1])


class OrderOfRefusals(ManyCase):
    def test_text_too_long_comes_first(self):
        for m in (0, 1, 4, 5, GREATEST):
            self.check([10] * 65537, m, [-2])
            self.check(FULL + [10] * 65537, m, [-2])

    def test_no_locker_comes_before_the_length(self):
        for m in (0, 1, 4, 5, GREATEST):
            self.check([], m, [-6])
            self.check(FULL[:-1], m, [-6])
            self.check(text("locker L"), m, [-6])
            self.check([10] * 65536, m, [-6])


class AgainstSearch(ManyCase):
    def test_small_lockers(self):
        for t in list(small_lockers(6, 150)) + six_sign_lockers():
            self.check_all(t, [len(rows_shown(t, m)) for m in (1, 2, 3, 4)])

    def test_as_many_as_shows_shows(self):
        t = locker([2, 1, 1], [(1, 1), (2, 1)])
        rows = [[a, b, c] for a in range(3) for b in range(3) for c in range(3)]
        self.check(t, 3, [0, len([row for row in rows if shows(t, [3], row)[0] == 3])])


class Greatest(ManyCase):
    def check_soon(self, t, counts):
        self.check_within(4, lambda: self.check_all(t, counts))

    def test_equal_copies(self):
        self.check_soon(locker([1] * 48), [48, 48 * 47, 48 * 47 * 46, 48 * 47 * 46 * 45])
        self.check_soon(locker([8] * 48, [(1, 8), (2, 8), (3, 8), (4, 8)], [8]), [48, 48 ** 2, 48 ** 3, 48 ** 4])
        self.check_soon(locker([3] * 48), [48, 48 ** 2, 48 ** 3, 48 ** 4 - 48])

    def test_all_sames_once(self):
        # Each place behind the first has its own same, whatever sign stands there.
        self.check_soon(locker([1] * 48, [(1, 1), (2, 1), (3, 1), (4, 1)]), [48, 48 ** 2, 48 ** 3, 48 ** 4])

    def test_all_copies_without_sames(self):
        copies = [1 + n % 8 for n in range(48)]
        self.check_soon(locker(copies), [row_count(m, 0, copies) for m in (1, 2, 3, 4)])

    def test_all_copies_with_the_first_same(self):
        # The sign at the top may stand as often as it likes below; each other has its copies.
        copies = [1 + n * 7 % 8 for n in range(48)]
        counts = [sum(row_count(m - 1, 1, copies[:top] + copies[top + 1:]) for top in range(48)) for m in (1, 2, 3, 4)]
        self.check_soon(locker(copies, [(1, 3)]), counts)

    def test_all_copies_with_all_sames(self):
        copies = [1 + n % 4 for n in range(48)]
        self.check_soon(locker(copies, [(1, 1), (2, 1), (3, 1), (4, 1)], [1]), [48, 48 ** 2, 48 ** 3, 48 ** 4])


class ManyByItself(EachCallByItself, unittest.TestCase):
    call = staticmethod(many)
    CASES = ((1, FULL), (4, FULL), (0, FULL), (5, FULL), (GREATEST, FULL), (2, FULL[:-1]), (2, []), (2, [10] * 65537),
             (3, locker([1, 1], [(1, 1)])))


if __name__ == "__main__":
    unittest.main()
