import itertools
import random
import unittest

from cases import AnswerCase, EachCallByItself
from flaghoistsdesk.locker import means, shows
from reference import best_display, best_of_many, expected_shows, rows_of
from texts import A, ANSWER, B, C, D, E, FULL, NO_KIND, SAME1, SAME2, SAME3, SAME4, locker


class ShowsCase(AnswerCase):
    def check(self, t, rows, answered):
        self.check_lists(t, [len(row) for row in rows], sum(rows, []), answered)

    def check_lists(self, t, lens, signs, answered):
        got = shows(list(t), list(lens), list(signs))
        self.check_answer(got, answered, (lens, signs))
        if got[0] > 0:
            for hoist, row in zip(rows_of(lens, got[2:]), rows_of(lens, signs)):
                self.assertEqual(means(t, hoist), [len(row)] + list(row))


class OrdinaryDisplays(ShowsCase):
    def test_one_row_of_different_signs(self):
        self.check(FULL, [[A]], [1, 0, A])
        self.check(FULL, [[C, A, B]], [3, 0, C, A, B])
        self.check(FULL, [[E, D, C, B, A]], [5, 0, E, D, C, B, A])

    def test_rows_of_different_signs(self):
        self.check(FULL, [[D, A], [C], [B, A]], [5, 0, D, A, C, B, A])
        self.check(FULL, [[A], [B], [C], [D]], [4, 0, A, B, C, D])

    def test_sign_that_stands_twice(self):
        self.check(FULL, [[B, B]], [2, 1, B, SAME1])
        self.check(FULL, [[A, B, C, D, B]], [5, 1, A, B, C, D, SAME2])
        self.check(FULL, [[A, B, C, D, C]], [5, 1, A, B, C, D, SAME3])
        self.check(FULL, [[A, B, C, D, D]], [5, 1, A, B, C, D, SAME4])

    def test_sign_that_stands_twice_and_is_there_twice(self):
        self.check(FULL, [[A, B, A]], [3, 0, A, B, A])
        self.check(FULL, [[E] * 8], [8, 0] + [E] * 8)

    def test_sign_that_stands_more_often(self):
        self.check(FULL, [[A, A, A]], [3, 1, A, A, SAME1])
        self.check(FULL, [[B, B, B]], [3, 2, B, SAME1, SAME2])
        self.check(FULL, [[B, C, B, C, B, C]], [6, 4, B, C, SAME1, SAME2, SAME3, SAME2])

    def test_several_rows_with_signs_that_stand_twice(self):
        self.check(FULL, [[B, B], [C, D, D]], [5, 2, B, SAME1, C, D, SAME2])
        self.check(FULL, [[C], [B, D, D, B], [E, E]], [7, 2, C, B, D, SAME2, SAME1, E, E])

    def test_answer_is_in_no_display(self):
        self.check(locker([1], [], [8]), [[0, 0]], [-5])

    def test_sames_need_not_begin_with_one(self):
        t = locker([1, 1], [(2, 1), (4, 1)])
        self.check(t, [[0, 1, 1]], [3, 1, 0, 1, 2])
        self.check(t, [[1, 1]], [-5])
        self.check(t, [[0, 1, 0]], [-5])

    def test_row_of_different_signs_is_shown_by_its_own_flags(self):
        t = locker([1] * 8, [(k, 8) for k in (1, 2, 3, 4)])
        for row in itertools.permutations(range(8), 3):
            self.check(t, [list(row)], [3, 0] + list(row))
        self.check(t, [[7, 6, 5, 4, 3, 2, 1, 0]], [8, 0, 7, 6, 5, 4, 3, 2, 1, 0])


class WhichDisplay(ShowsCase):
    def test_own_flag_as_far_up_as_it_goes(self):
        self.check(locker([2], [(1, 2), (2, 2)]), [[0, 0, 0]], [3, 1, 0, 0, 1])
        self.check(locker([3], [(1, 1)]), [[0, 0], [0, 0]], [4, 1, 0, 0, 0, 1])

    def test_same_of_the_least_number_first(self):
        self.check(locker([1], [(1, 8), (2, 8), (3, 8)]), [[0] * 4], [4, 3, 0, 1, 1, 1])
        self.check(locker([1], [(1, 2), (2, 8), (3, 8)]), [[0] * 5], [5, 4, 0, 1, 1, 2, 2])

    def test_no_more_sames_than_needed(self):
        self.check(locker([8], [(1, 8)]), [[0] * 8], [8, 0] + [0] * 8)
        self.check(locker([6], [(1, 8)]), [[0] * 8], [8, 2] + [0] * 6 + [1, 1])
        self.check(locker([5, 3], [(1, 8), (2, 8)]), [[0, 1] * 4, [0, 1]],
                   [10, 2] + [0, 1, 0, 1, 0, 3, 0, 3] + [0, 1])

    def test_own_flag_kept_for_a_row_below(self):
        self.check(locker([2], [(1, 1)]), [[0, 0], [0]], [3, 1, 0, 1, 0])
        self.check(locker([3], [(1, 2)]), [[0, 0, 0], [0], [0]], [5, 2, 0, 1, 1, 0, 0])
        self.check(locker([2, 2], [(1, 2)]), [[0, 0], [1, 1], [0], [1]], [6, 2, 0, 2, 1, 2, 0, 1])

    def test_own_flag_kept_for_the_second_place_of_a_row_below(self):
        t = locker([2, 1, 1, 1], [(1, 2)])
        self.check(t, [[0, 0, 1, 2]], [4, 0, 0, 0, 1, 2])
        self.check(t, [[0, 0, 1, 2], [3, 0]], [6, 1, 0, 4, 1, 2, 3, 0])

    def test_same_kept_for_a_hoist_below(self):
        t = locker([1, 1], [(1, 2), (2, 1)])
        self.check(t, [[0, 0, 0]], [3, 2, 0, 2, 2])
        self.check(t, [[0, 0, 0], [1, 1]], [5, 3, 0, 2, 3, 1, 2])

    def test_sames_of_two_signs_in_one_hoist(self):
        t = locker([1, 1], [(1, 1), (2, 1), (3, 1), (4, 1)])
        self.check(t, [[1, 0, 0, 1, 0]], [5, 3, 1, 0, 3, 2, 4])
        self.check(t, [[1, 0, 0, 1, 1]], [5, 3, 1, 0, 3, 2, 5])

    def test_choices_passed_on_from_place_to_place(self):
        # The same that the second row needs is missing in the first, and those behind it move up there.
        t = locker([1, 1, 1, 1], [(1, 2), (2, 1), (3, 1), (4, 1)])
        self.check(t, [[0] * 5, [1, 1]], [7, 5, 0, 4, 5, 6, 7, 1, 4])
        self.check(t, [[0] * 5, [1, 2, 2]], [8, 5, 0, 4, 4, 6, 7, 1, 2, 5])
        self.check(t, [[0] * 5, [1, 2, 3, 3]], [9, 5, 0, 4, 4, 5, 7, 1, 2, 3, 6])

    def test_order_by_numbers_not_by_how_soon_a_same_comes(self):
        # The same could stand at the third place too, or at the fifth: there it is the last to differ.
        self.check(locker([1, 3], [(1, 1), (2, 1)]), [[0, 1, 1], [1, 1]], [5, 1, 0, 1, 1, 1, 2])


class SharedCopies(ShowsCase):
    def test_copies_of_a_sign_are_of_all_hoists_together(self):
        t = locker([2, 1], [(1, 1)])
        self.check(t, [[0], [0]], [2, 0, 0, 0])
        self.check(t, [[0], [0], [0]], [-5])
        self.check(t, [[1], [1]], [-5])

    def test_copies_of_a_same_are_of_all_hoists_together(self):
        self.check(locker([1, 1], [(1, 2)]), [[0, 0], [1, 1]], [4, 2, 0, 2, 1, 2])
        self.check(locker([1, 1], [(1, 1)]), [[0, 0], [1, 1]], [-5])
        self.check(locker([1, 1], [(1, 1), (2, 8), (3, 8), (4, 8)]), [[0, 0], [1, 1]], [-5])

    def test_each_number_of_copies(self):
        for copies in range(1, 9):
            self.check(locker([1], [(1, copies)]), [[0] * min(8, copies + 1)],
                       [min(8, copies + 1), min(7, copies), 0] + [1] * min(7, copies))
            if copies < 7:
                self.check(locker([1], [(1, copies)]), [[0] * (copies + 2)], [-5])
            self.check(locker([copies]), [[0] * copies], [copies, 0] + [0] * copies)
            if copies < 8:
                self.check(locker([copies]), [[0] * (copies + 1)], [-5])

    def test_same_tells_of_its_own_hoist_alone(self):
        t = locker([1, 1, 1], [(1, 8), (2, 8), (3, 8), (4, 8)])
        self.check(t, [[0, 1], [2, 0]], [-5])
        self.check(t, [[0], [0]], [-5])
        self.check(t, [[0, 1, 0], [2, 2]], [5, 2, 0, 1, 3, 2, 3])


class SamesOfSames(ShowsCase):
    def test_sign_told_by_a_same(self):
        self.check(locker([1, 1], [(1, 1), (3, 1)]), [[0, 1, 0, 0]], [4, 2, 0, 1, 2, 3])
        self.check(locker([1, 1], [(2, 2), (4, 1)]), [[0, 1, 1, 1, 1]], [5, 3, 0, 1, 2, 2, 3])
        self.check(FULL, [[D] * 5], [5, 4, D, SAME1, SAME2, SAME2, SAME3])

    def test_chain_of_sames(self):
        self.check(locker([1], [(1, 1), (2, 1), (3, 1), (4, 1)]), [[0] * 5], [5, 4, 0, 1, 2, 3, 4])

    def test_same_has_no_sign_above_it_at_its_own_place(self):
        self.check(locker([1], [(2, 8)]), [[0, 0]], [-5])
        self.check(locker([1, 1], [(2, 8)]), [[0, 1, 1]], [3, 1, 0, 1, 2])
        self.check(locker([1], [(3, 8), (4, 8)]), [[0, 0, 0]], [-5])
        self.check(locker([3], [(3, 8)]), [[0, 0, 0, 0]], [4, 1, 0, 0, 0, 1])
        self.check(locker([3], [(4, 8)]), [[0, 0, 0, 0]], [-5])

    def test_sign_behind_the_fourth_has_no_same(self):
        t = locker([1] * 6, [(1, 8), (2, 8), (3, 8), (4, 8)])
        self.check(t, [[0, 1, 2, 3, 4, 3]], [6, 1, 0, 1, 2, 3, 4, 9])
        self.check(t, [[0, 1, 2, 3, 4, 4]], [-5])


class Lengths(ShowsCase):
    def test_no_lengths(self):
        self.check_lists(FULL, [], [], [-1])
        self.check_lists(FULL, [], [A], [-1])

    def test_one_four_and_five_lengths(self):
        self.check_lists(FULL, [1], [E], [1, 0, E])
        self.check_lists(FULL, [1] * 4, [E] * 4, [4, 0] + [E] * 4)
        self.check_lists(FULL, [1] * 5, [E] * 5, [-1])
        self.check_lists(FULL, [1] * 10, [E] * 10, [-1])

    def test_length_of_none(self):
        self.check_lists(FULL, [0], [], [-1])
        self.check_lists(FULL, [0], [A], [-1])
        self.check_lists(FULL, [1, 0], [A], [-1])
        self.check_lists(FULL, [0, 1], [A], [-1])
        self.check_lists(FULL, [1, 0, 1], [A, B], [-1])

    def test_length_of_eight_and_nine(self):
        self.check_lists(FULL, [8], [E] * 8, [8, 0] + [E] * 8)
        self.check_lists(FULL, [9], [E] * 9, [-1])
        self.check_lists(FULL, [1, 9], [A] + [E] * 9, [-1])
        self.check_lists(FULL, [9, 1], [E] * 9 + [A], [-1])

    def test_greatest_length(self):
        self.check_lists(FULL, [4294967295], [A], [-1])
        self.check_lists(FULL, [1, 4294967295], [A], [-1])
        self.check_lists(FULL, [1, 4294967295, 1], [A, B], [-1])

    def test_lengths_are_not_taken_within_32_bits(self):
        self.check_lists(FULL, [4294967295, 2], [A], [-1])
        self.check_lists(FULL, [4294967295, 4294967295, 3], [A], [-1])

    def test_one_sign_too_few_and_too_many(self):
        for lens in ([1], [8], [2, 1], [2, 1, 2, 1]):
            self.check_lists(FULL, lens, [E] * sum(lens), [sum(lens), 0] + [E] * sum(lens))
            self.check_lists(FULL, lens, [E] * (sum(lens) - 1), [-1])
            self.check_lists(FULL, lens, [E] * (sum(lens) + 1), [-1])
        self.check_lists(FULL, [1], [E] * 60, [-1])


class Numbers(ShowsCase):
    def test_just_below_and_just_at_the_number_of_signs(self):
        self.check(FULL, [[E]], [1, 0, E])
        self.check(FULL, [[SAME1]], [-4])
        self.check(locker([1]), [[0]], [1, 0, 0])
        self.check(locker([1]), [[1]], [-4])
        self.check(locker([1] * 48), [[47]], [1, 0, 47])
        self.check(locker([1] * 48), [[48]], [-4])

    def test_numbers_of_sames_and_the_answer(self):
        for number in (SAME1, SAME2, SAME3, SAME4, ANSWER, NO_KIND, 255):
            self.check(FULL, [[number]], [-4])
            self.check(FULL, [[A, number]], [-4])
            self.check(FULL, [[A], [B, C], [number, D]], [-4])


class OrderOfRefusals(ShowsCase):
    def test_text_too_long_comes_first(self):
        for lens, signs in (([], []), ([1], [A]), ([1], [NO_KIND]), ([2], [B, B])):
            self.check_lists([10] * 65537, lens, signs, [-2])
            self.check_lists(FULL + [10] * 65537, lens, signs, [-2])

    def test_no_locker_comes_before_the_rows(self):
        for lens, signs in (([], []), ([1], [A]), ([1], [NO_KIND]), ([2], [B, B]), ([9], [A])):
            self.check_lists(FULL[:-1], lens, signs, [-6])
            self.check_lists([], lens, signs, [-6])
            self.check_lists([10] * 65536, lens, signs, [-6])

    def test_length_before_number(self):
        self.check_lists(FULL, [], [NO_KIND], [-1])
        self.check_lists(FULL, [2], [NO_KIND], [-1])
        self.check_lists(FULL, [1], [NO_KIND, A], [-1])
        self.check_lists(FULL, [9], [SAME1] * 9, [-1])
        self.check_lists(FULL, [1, 1, 1, 1, 1], [ANSWER] * 5, [-1])

    def test_length_before_not_shown(self):
        self.check_lists(FULL, [9], [B] * 9, [-1])
        self.check_lists(FULL, [1, 1, 0], [B, B], [-1])
        self.check_lists(FULL, [1, 1], [B, B, B], [-1])

    def test_number_before_not_shown(self):
        self.check_lists(FULL, [1, 1, 1], [B, B, SAME1], [-4])
        self.check_lists(FULL, [3], [NO_KIND, B, B], [-4])
        self.check_lists(FULL, [8], [B] * 7 + [255], [-4])

    def test_all_three(self):
        self.check_lists(FULL, [1, 1, 2], [B, B, SAME1], [-1])


class NotShown(ShowsCase):
    def test_one_row(self):
        self.check(locker([1]), [[0, 0]], [-5])
        self.check(FULL, [[B] * 7], [-5])
        self.check(FULL, [[A, C, B, D, D, D]], [-5])
        self.check(FULL, [[A, B, C, D, E, E, E, A], [A, C]], [-5])

    def test_each_alone_but_not_together(self):
        for t, rows in (
            (locker([1]), [[0], [0]]),
            (locker([1, 1], [(1, 1)]), [[0, 0], [1, 1]]),
            (locker([2, 1], [(1, 1)]), [[0, 0, 0], [1], [0]]),
            (locker([1, 1], [(1, 2), (2, 1)]), [[0, 0, 0, 0], [1, 1]]),
            (locker([1] * 4, [(1, 1), (2, 1), (3, 1), (4, 1)]), [[0] * 5, [1, 2, 3, 3]]),
        ):
            for row in rows:
                self.assertEqual(shows(t, [len(row)], row)[0], len(row))
            self.check(t, rows, [-5])

    def test_shown_together_and_so_alone(self):
        t = locker([2, 1, 1], [(1, 2), (3, 1)])
        chance = random.Random(5)
        for turn in range(300):
            rows = [[chance.randrange(3) for place in range(chance.randrange(1, 5))] for row in range(2)]
            if shows(t, [len(row) for row in rows], sum(rows, []))[0] > 0:
                for row in rows:
                    self.assertEqual(shows(t, [len(row)], row)[0], len(row))


class AgainstSearch(ShowsCase):
    def check_search(self, t, rows, best):
        lens = [len(row) for row in rows]
        self.check(t, rows, expected_shows(t, lens, sum(rows, []), best))

    def test_all_short_rows(self):
        for t in (locker([1, 2], [(1, 1), (2, 2)], [1]), locker([2, 1], [(2, 1), (3, 1)]), locker([1, 1], [(1, 3)])):
            for size in range(1, 6):
                for signs in itertools.product(range(2), repeat=size):
                    for cut in range(1, size):
                        self.check_search(t, [list(signs[:cut]), list(signs[cut:])], best_display)
                    self.check_search(t, [list(signs)], best_display)

    def test_many_lockers(self):
        chance = random.Random(3)
        for turn in range(60):
            signs = [chance.randint(1, 3) for sign in range(chance.randint(1, 3))]
            ks = sorted(chance.sample((1, 2, 3, 4), chance.randint(0, 3)))
            t = locker(signs, [(k, chance.randint(1, 3)) for k in ks], [1] * chance.randrange(2))
            for display in range(30):
                rows = [[chance.randrange(len(signs)) for place in range(chance.randint(1, 4))]
                        for row in range(chance.randint(1, 4))]
                # A row behind the second is short, so that there are not too many displays to search.
                rows[2:] = [row[:2] for row in rows[2:]]
                self.check_search(t, rows, best_display)

    def test_long_rows(self):
        chance = random.Random(4)
        answered = []
        for turn in range(400):
            signs = [chance.randint(1, 6) for sign in range(chance.randint(1, 3))]
            ks = sorted(chance.sample((1, 2, 3, 4), chance.randint(1, 4)))
            t = locker(signs, [(k, chance.randint(1, 5)) for k in ks])
            rows = [[chance.randrange(len(signs)) for place in range(chance.randint(1, 8))]
                    for row in range(chance.choice((1, 2, 2, 3, 4)))]
            self.check_search(t, rows, best_of_many)
            answered.append(shows(t, [len(row) for row in rows], sum(rows, []))[0] > 0)
        self.assertGreater(answered.count(True), 50)
        self.assertGreater(answered.count(False), 50)


class Heaviest(ShowsCase):
    SAMES = [(1, 8), (2, 8), (3, 8), (4, 8)]

    def check_soon(self, t, rows, answered):
        self.check_within(2, lambda: self.check(t, rows, answered))

    def test_one_sign(self):
        t = locker([8], self.SAMES)
        kinds = [(0, 8)] + self.SAMES
        rows = [[0] * 8] * 4
        flags = best_of_many(kinds, rows)
        self.check_soon(t, rows, [32, 24] + list(flags))

    def test_one_sign_just_shown_and_just_not(self):
        rows = [[0] * 8] * 4
        kinds = [(0, 4), (1, 7), (2, 7), (3, 7), (4, 7)]
        self.check_soon(locker([4], kinds[1:]), rows, [32, 28] + list(best_of_many(kinds, rows)))
        self.check_soon(locker([4], [(1, 7), (2, 7), (3, 7), (4, 6)]), rows, [-5])
        self.check_soon(locker([3], self.SAMES), rows, [-5])
        self.check_soon(locker([4], [(1, 3), (2, 8), (3, 8), (4, 8)]), rows, [-5])

    def test_greatest_locker(self):
        t = locker([1] * 48, self.SAMES, [8])
        self.check_soon(t, [[0, 1, 2, 3] * 2, [4, 5, 6, 7] * 2, [44, 45, 46, 47] * 2, [8, 9, 10, 11] * 2],
                        [32, 16] + sum([row + [48, 49, 50, 51] for row in
                                        ([0, 1, 2, 3], [4, 5, 6, 7], [44, 45, 46, 47], [8, 9, 10, 11])], []))
        self.check_soon(t, [list(range(8)), list(range(8, 16)), list(range(16, 24)), list(range(40, 48))],
                        [32, 0] + list(range(24)) + list(range(40, 48)))
        self.check_soon(t, [list(range(8)), list(range(8, 16)), list(range(16, 24)), list(range(40, 47)) + [0]], [-5])

    def test_rows_of_two_signs(self):
        t = locker([4, 4], self.SAMES)
        kinds = [(0, 4), (0, 4)] + self.SAMES
        rows = [[0, 1] * 4, [1, 0] * 4, [0, 0, 1, 1] * 2, [1, 1, 0, 0, 1, 0, 1, 0]]
        flags = best_of_many(kinds, rows)
        self.check_soon(t, rows, [32, 24] + list(flags))
        self.check_soon(locker([4, 4], [(1, 5), (2, 5), (3, 5), (4, 8)]), rows, [-5])


class ShowsByItself(EachCallByItself, unittest.TestCase):
    call = staticmethod(shows)
    CASES = (
        (FULL, [3, 2], [B, C, B, A, A]),
        (FULL, [2], [B, B]),
        (FULL, [1, 1], [B, B]),
        (FULL, [1], [NO_KIND]),
        (FULL, [], []),
        (FULL, [9], [A]),
        (FULL[:-1], [1], [A]),
        ([], [1], [A]),
        ([10] * 65537, [1], [A]),
    )


if __name__ == "__main__":
    unittest.main()
