"""What the tests of all calls ask for."""

import time
import unittest

from texts import Frozen


class AnswerCase(unittest.TestCase):
    def check_answer(self, got, answered, of):
        self.assertEqual(got, answered, of)
        self.assertIs(type(got), list)
        for number in got:
            self.assertIs(type(number), int)

    def check_within(self, seconds, call):
        start = time.perf_counter()
        call()
        self.assertLess(time.perf_counter() - start, seconds)


def changed_lists(parts, change):
    return [change(part) if isinstance(part, list) else part for part in parts]


class EachCallByItself:
    """Beside unittest.TestCase, with call and CASES: the call, and tuples of what is handed in."""

    def test_second_call_answers_as_the_first(self):
        first = [self.call(*case) for case in self.CASES]
        self.assertEqual([self.call(*case) for case in self.CASES], first)

    def test_changing_what_was_answered_changes_no_later_answer(self):
        for case in self.CASES:
            got = self.call(*case)
            kept = list(got)
            got.append(99)
            got[0] = 77
            self.assertEqual(self.call(*case), kept)

    def test_as_before_after_the_call(self):
        for case in self.CASES:
            given = changed_lists(case, list)
            self.call(*given)
            self.assertEqual(given, list(case))

    def test_not_changed_for_a_while(self):
        for case in self.CASES:
            self.assertEqual(self.call(*changed_lists(case, Frozen)), self.call(*case))
