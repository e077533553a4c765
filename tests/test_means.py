import unittest

from flaghoistsdesk.locker import means
from texts import A, ANSWER, B, C, D, E, FULL, NO_KIND, SAME1, SAME2, SAME3, SAME4, Frozen, same, sign, text


class MeansCase(unittest.TestCase):
    def check(self, hoist, answered, t=FULL):
        got = means(list(t), list(hoist))
        self.assertEqual(got, answered, hoist)
        self.assertIs(type(got), list)
        for number in got:
            self.assertIs(type(number), int)


class OrdinaryHoists(MeansCase):
    def test_signs_mean_themselves(self):
        self.check([A], [1, A])
        self.check([C, A, B], [3, C, A, B])
        self.check([E, D, C, B, A], [5, E, D, C, B, A])

    def test_same_of_each_number(self):
        self.check([A, B, C, D, SAME1], [5, A, B, C, D, A])
        self.check([A, B, C, D, SAME2], [5, A, B, C, D, B])
        self.check([A, B, C, D, SAME3], [5, A, B, C, D, C])
        self.check([A, B, C, D, SAME4], [5, A, B, C, D, D])

    def test_same_counts_from_the_top_not_from_itself(self):
        self.check([B, C, D, A, E, SAME2], [6, B, C, D, A, E, C])

    def test_same_of_a_sign_told_by_a_same(self):
        self.check([B, SAME1, SAME2], [3, B, B, B])
        self.check([C, B, SAME2, SAME3], [4, C, B, B, B])
        self.check([D, SAME1, SAME2, SAME3, SAME4], [5, D, D, D, D, D])

    def test_same_between_signs_counts_as_a_place(self):
        self.check([A, SAME1, B, SAME3], [4, A, A, B, B])
        self.check([A, SAME1, B, SAME2], [4, A, A, B, A])

    def test_kinds_are_numbered_as_they_stand_in_the_text(self):
        t = text("locker L", sign("Z", 1), sign("A", 2), same(2, 3))
        self.check([1, 0, 2], [3, 1, 0, 0], t)

    def test_sames_need_not_begin_with_one(self):
        t = text("locker L", sign("X", 1), sign("Y", 2), same(2, 3), same(4, 4))
        self.check([0, 1, 2, 3], [-9, 3], t)
        self.check([1, 0, 2], [3, 1, 0, 0], t)


class Lengths(MeansCase):
    def test_no_flags(self):
        self.check([], [-1])

    def test_one_flag(self):
        self.check([E], [1, E])

    def test_eight_flags(self):
        self.check([A, B, C, D, E, SAME1, SAME3, SAME4], [8, A, B, C, D, E, A, C, D])
        self.check([E] * 8, [8] + [E] * 8)

    def test_nine_flags(self):
        self.check([A, B, C, D, E, SAME1, SAME2, SAME3, SAME4], [-1])

    def test_twenty_flags(self):
        self.check([E] * 20, [-1])

    def test_length_before_all_faults_of_flags(self):
        self.check([NO_KIND] * 9, [-1])
        self.check([SAME1] * 9, [-1])
        self.check([E] * 9, [-1])


class NoKind(MeansCase):
    def test_just_below_and_just_at_the_number_of_kinds(self):
        t = text("locker L", sign("X", 1), sign("Y", 2))
        self.check([1], [1, 1], t)
        self.check([2], [-4, 0], t)
        self.check([ANSWER], [-9, 0])
        self.check([NO_KIND], [-4, 0])

    def test_greatest_number(self):
        self.check([A, 255], [-4, 1])

    def test_place_of_the_first(self):
        self.check([A, B, NO_KIND], [-4, 2])
        self.check([A, NO_KIND, 200, NO_KIND], [-4, 1])
        self.check([E] * 7 + [NO_KIND], [-4, 7])


class MeansNothing(MeansCase):
    def test_same_as_first_flag(self):
        for flag in (SAME1, SAME2, SAME3, SAME4):
            self.check([flag], [-9, 0])
            self.check([flag, A], [-9, 0])

    def test_sign_not_there_yet_and_just_there(self):
        for k, flag in enumerate((SAME1, SAME2, SAME3, SAME4), start=1):
            above = [B, C, D, A][:k]
            self.check(above[:-1] + [flag], [-9, k - 1])
            self.check(above + [flag], [k + 1] + above + above[-1:])

    def test_same_does_not_mean_a_sign_below_it(self):
        self.check([A, SAME2, B], [-9, 1])

    def test_answer(self):
        self.check([ANSWER], [-9, 0])
        self.check([A, B, ANSWER], [-9, 2])
        self.check([A, ANSWER, B], [-9, 1])

    def test_place_of_the_first(self):
        self.check([A, SAME3, ANSWER, SAME4], [-9, 1])
        self.check([A, ANSWER, SAME3, SAME4], [-9, 1])
        self.check([E] * 7 + [ANSWER], [-9, 7])


class Copies(MeansCase):
    def test_as_many_as_copies_and_one_more(self):
        self.check([B], [1, B])
        self.check([B, B], [-3, 1])
        self.check([A, A], [2, A, A])
        self.check([A, A, A], [-3, 2])
        self.check([E] * 8, [8] + [E] * 8)

    def test_copies_of_sames(self):
        self.check([A, B, SAME2, SAME2], [4, A, B, B, B])
        self.check([A, B, SAME2, SAME2, SAME2], [-3, 4])
        self.check([A, SAME1, SAME1], [-3, 2])

    def test_sign_meant_by_a_same_takes_no_copy(self):
        self.check([B, SAME1, SAME2, SAME2], [4, B, B, B, B])

    def test_place_is_that_of_the_flag_too_many(self):
        self.check([A, B, E, A, C, A, A], [-3, 5])

    def test_place_of_the_first(self):
        self.check([B, C, C, B], [-3, 2])
        self.check([A, B, A, B, A], [-3, 3])
        self.check([E, E, E, E, E, E, D, D], [-3, 7])

    def test_each_number_of_copies(self):
        for copies in range(1, 9):
            t = text("locker L", sign("X", 1, copies), sign("Y", 2, 8))
            self.check([0] * copies, [copies] + [0] * copies, t)
            if copies < 8:
                self.check([0] * (copies + 1), [-3, copies], t)
                self.check([0] * copies + [1] * (8 - copies), [8] + [0] * copies + [1] * (8 - copies), t)


class SeveralFaults(MeansCase):
    def test_no_kind_before_means_nothing(self):
        self.check([SAME1, NO_KIND], [-4, 1])
        self.check([NO_KIND, SAME4], [-4, 0])
        self.check([ANSWER, A, NO_KIND], [-4, 2])

    def test_no_kind_before_copies(self):
        self.check([B, B, NO_KIND], [-4, 2])
        self.check([NO_KIND, B, B], [-4, 0])
        self.check([NO_KIND, NO_KIND], [-4, 0])

    def test_means_nothing_before_copies(self):
        self.check([B, B, ANSWER], [-9, 2])
        self.check([B, B, SAME3], [-9, 2])
        self.check([SAME1, B, B], [-9, 0])
        self.check([ANSWER, ANSWER, ANSWER], [-9, 0])

    def test_all_three(self):
        self.check([B, B, ANSWER, NO_KIND], [-4, 3])
        self.check([SAME2, B, NO_KIND, B], [-4, 2])
        self.check([NO_KIND, ANSWER, B, B], [-4, 0])


class OrderOfRefusals(MeansCase):
    def test_text_too_long_comes_first(self):
        for hoist in ([], [A], [NO_KIND], [A] * 9):
            self.check(hoist, [-2], [10] * 65537)

    def test_no_locker_comes_before_the_hoist(self):
        for hoist in ([], [A], [NO_KIND], [A] * 9):
            self.check(hoist, [-6], FULL[:-1])


class EachCallByItself(unittest.TestCase):
    HOISTS = ([A, SAME1], [B, B], [NO_KIND], [SAME1], [], [E] * 9)

    def test_second_call_answers_as_the_first(self):
        for hoist in self.HOISTS:
            self.assertEqual(means(FULL, hoist), means(FULL, hoist))

    def test_calls_between_change_nothing(self):
        other = text("locker L", sign("X", 1, 8), same(3, 2))
        first = [means(FULL, hoist) for hoist in self.HOISTS]
        self.assertEqual(means(other, [0, 0, 0, 1]), [4, 0, 0, 0, 0])
        self.assertEqual(means([], [0]), [-6])
        self.assertEqual(means([10] * 65537, [0]), [-2])
        self.assertEqual([means(FULL, hoist) for hoist in self.HOISTS], first)

    def test_changing_what_was_answered_changes_no_later_answer(self):
        for t, hoist in ((FULL, [A, B]), (FULL, []), (FULL, [B, B]), ([], [A])):
            got = means(t, hoist)
            kept = list(got)
            got.append(99)
            got[0] = 77
            self.assertEqual(means(t, hoist), kept)


class HandedInUnchanged(unittest.TestCase):
    CASES = (
        (FULL, [A, B, SAME2]),
        (FULL, [B, B]),
        (FULL, [SAME1]),
        (FULL, [A, NO_KIND]),
        (FULL, []),
        (FULL[:-1], [A]),
        ([], [A]),
        ([10] * 65537, [A]),
    )

    def test_as_before_after_the_call(self):
        for t, hoist in self.CASES:
            t_given = list(t)
            h_given = list(hoist)
            means(t_given, h_given)
            self.assertEqual(t_given, t)
            self.assertEqual(h_given, hoist)

    def test_not_changed_for_a_while(self):
        for t, hoist in self.CASES:
            self.assertEqual(means(Frozen(t), Frozen(hoist)), means(t, hoist))

    def test_answer_is_not_what_was_handed_in(self):
        hoist = [A, B]
        got = means(FULL, hoist)
        got.append(0)
        self.assertEqual(hoist, [A, B])


if __name__ == "__main__":
    unittest.main()
