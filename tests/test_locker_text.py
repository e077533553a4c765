import unittest

from flaghoistsdesk.locker import means
from texts import FULL, answer, look, same, sign, text

LOOK = look(0xABC)


class TextCase(unittest.TestCase):
    """Whether a text is a locker's is seen by the hoist of its kind 0, which is a sign's."""

    def taken(self, t):
        self.assertEqual(means(list(t), [0]), [1, 0], bytes(t))

    def refused(self, t):
        self.assertEqual(means(list(t), [0]), [-6], bytes(t))
        self.assertEqual(means(list(t), []), [-6], bytes(t))

    def line_taken(self, line):
        self.taken(text("locker L", "sign X 1 square " + look(1), line))

    def line_refused(self, line):
        self.refused(text("locker L", "sign X 1 square " + look(1), line))


class Length(TextCase):
    def padded(self, size):
        # Blanks behind the look: no locker's text, whatever the size.
        return FULL[:-1] + [32] * (size - len(FULL)) + [10]

    def test_most_bytes(self):
        for t in ([10] * 65536, [65] * 65536, [32] * 65536, self.padded(65536), [255] * 65535 + [10]):
            self.assertEqual(len(t), 65536)
            self.refused(t)

    def test_one_byte_more(self):
        for t in ([10] * 65537, [65] * 65537, [32] * 65537, self.padded(65537), [255] * 65536 + [10]):
            self.assertEqual(len(t), 65537)
            self.assertEqual(means(t, [0]), [-2])

    def test_longest_handed_in(self):
        self.assertEqual(means([10] * 66000, [0]), [-2])

    def test_many_lines_and_many_words(self):
        self.refused(FULL + [10] * (65536 - len(FULL)))
        self.refused(text("locker L", "sign" + " A" * 30000))


class Whole(TextCase):
    def test_full_locker(self):
        self.taken(FULL)

    def test_least_locker(self):
        self.taken(text("locker L", sign("X", 1)))

    def test_no_bytes(self):
        self.refused([])

    def test_one_line_end(self):
        self.refused([10])

    def test_locker_line_alone(self):
        self.refused(text("locker L"))
        self.refused(list(b"locker L"))

    def test_no_locker_line(self):
        self.refused(text(sign("X", 1)))
        self.refused(text(sign("X", 1), "locker L"))

    def test_second_locker_line(self):
        self.refused(text("locker L", "locker L", sign("X", 1)))
        self.refused(text("locker L", sign("X", 1), "locker M"))

    def test_no_sign(self):
        self.refused(text("locker L", same(1, 1)))
        self.refused(text("locker L", answer(1)))
        self.refused(text("locker L", same(1, 1), answer(2)))

    def test_last_line_end_missing(self):
        self.refused(FULL[:-1])
        self.refused(text("locker L", sign("X", 1))[:-1])

    def test_bytes_behind_the_last_line_end(self):
        for behind in ([65], [32], [0], [13], [255], list(answer(20).encode()), list(b"sign Y 1 long " + LOOK.encode())):
            self.refused(text("locker L", sign("X", 1)) + behind)

    def test_empty_lines(self):
        self.refused([10] + FULL)
        self.refused(text("locker L", "", sign("X", 1)))
        self.refused(FULL + [10])

    def test_line_ends_left_out_doubled_or_behind_a_13(self):
        places = [place for place, byte in enumerate(FULL) if byte == 10]
        for place in places:
            self.refused(FULL[:place] + FULL[place + 1:])
            self.refused(FULL[:place] + [10] + FULL[place:])
            self.refused(FULL[:place] + [13] + FULL[place:])

    def test_texts_cut_short(self):
        t = text("locker L", sign("X", 1), same(1, 2))
        for size in range(len(t)):
            if size != len(text("locker L", sign("X", 1))):
                self.refused(t[:size])


class Blanks(TextCase):
    LINES = ("locker L", sign("X", 1), same(1, 2), answer(3))

    def with_line(self, place, line):
        lines = list(self.LINES)
        lines[place] = line
        return text(*lines)

    def test_lines_as_they_are(self):
        self.taken(text(*self.LINES))

    def test_two_blanks(self):
        for place, line in enumerate(self.LINES):
            words = line.split(" ")
            for cut in range(1, len(words)):
                twice = " ".join(words[:cut]) + "  " + " ".join(words[cut:])
                self.refused(self.with_line(place, twice))

    def test_no_blank(self):
        for place, line in enumerate(self.LINES):
            words = line.split(" ")
            for cut in range(1, len(words)):
                none = " ".join(words[:cut]) + " ".join(words[cut:])
                self.refused(self.with_line(place, none))

    def test_blank_at_start_or_end(self):
        for place, line in enumerate(self.LINES):
            self.refused(self.with_line(place, " " + line))
            self.refused(self.with_line(place, line + " "))

    def test_only_a_blank(self):
        for place in range(len(self.LINES)):
            self.refused(self.with_line(place, " "))

    def test_other_white_signs_are_no_blanks(self):
        for place, line in enumerate(self.LINES):
            for white in "\t\r\x0b\x0c\x00\xa0":
                self.refused(self.with_line(place, line.replace(" ", white, 1)))
                self.refused(self.with_line(place, line + white))

    def test_word_too_few_or_too_many(self):
        for place, line in enumerate(self.LINES):
            words = line.split(" ")
            for cut in range(len(words)):
                self.refused(self.with_line(place, " ".join(words[:cut] + words[cut + 1:])))
                self.refused(self.with_line(place, " ".join(words[:cut])))
            self.refused(self.with_line(place, line + " 1"))
            self.refused(self.with_line(place, line + " " + LOOK))


class FirstWords(TextCase):
    def test_words_that_are_none(self):
        for word in ("Sign", "SIGN", "sig", "signs", "flag", "same", "answer", "locker", "sign0", ""):
            self.line_refused(word + " Y 1 long " + LOOK)
        for word in ("Same", "sames", "sam", "answer", "locker", ""):
            self.line_refused(word + " 1 1 long " + LOOK)
        for word in ("Answer", "answers", "answe", "sign", "same", "locker", ""):
            self.line_refused(word + " 1 long " + LOOK)

    def test_locker_words_that_are_none(self):
        for word in ("Locker", "lockers", "locke", "sign", "same", "answer", ""):
            self.refused(text(word + " L", sign("X", 1)))


class Names(TextCase):
    GOOD = ("A", "Z", "0", "9", "M", "5", "ABCDEFGH", "01234567", "Z9Z9Z9Z9", "YY")
    WRONG = ("", "ABCDEFGHI", "012345678", "A" * 20)

    def locker_named(self, name):
        return text("locker " + name, sign("X", 1))

    def test_good_names(self):
        for name in self.GOOD:
            self.line_taken(sign(name, 2))
            self.taken(self.locker_named(name))

    def test_wrong_lengths(self):
        for name in self.WRONG:
            self.line_refused(sign(name, 2))
            self.refused(self.locker_named(name))

    def test_each_byte(self):
        allowed = b"ABCDEFGHIJKLMNOPQRSTUVWXYZ0123456789"
        for byte in range(256):
            for before, behind in (("", ""), ("Q", ""), ("", "Q"), ("QQQ", "QQQQ")):
                name = before + chr(byte) + behind
                if byte in allowed and name != "X":
                    self.line_taken(sign(name, 2))
                    self.taken(self.locker_named(name))
                elif byte not in allowed:
                    self.line_refused(sign(name, 2))
                    self.refused(self.locker_named(name))

    def test_locker_name_may_be_a_sign_name(self):
        self.taken(text("locker X", sign("X", 1)))


class Digits(TextCase):
    WRONG = ("0", "9", "", "01", "10", "11", "1.", "+1", "-1", "a", ":", "/", "\xb2", "\x01", "I")

    def test_copies(self):
        for copies in range(1, 9):
            self.line_taken(sign("Y", 2, copies))
            self.line_taken(same(1, 2, copies))
            self.line_taken(answer(2, copies))
        for copies in self.WRONG:
            self.line_refused(sign("Y", 2, copies))
            self.line_refused(same(1, 2, copies))
            self.line_refused(answer(2, copies))

    def test_k(self):
        for k in range(1, 5):
            self.line_taken(same(k, 2))
        for k in self.WRONG + ("5", "6", "7", "8"):
            self.line_refused(same(k, 2))


class Shapes(TextCase):
    def test_each_shape(self):
        for shape in ("square", "tails", "long"):
            self.line_taken(sign("Y", 2, 1, shape))
            self.line_taken(same(1, 2, 1, shape))
            self.line_taken(answer(2, 1, shape))

    def test_words_that_are_none(self):
        for shape in ("", "round", "Square", "SQUARE", "squar", "squares", "tail", "Tails", "lon", "longs", "Long", "1"):
            self.line_refused(sign("Y", 2, 1, shape))
            self.line_refused(same(1, 2, 1, shape))
            self.line_refused(answer(2, 1, shape))


class Looks(TextCase):
    STARTS = ("sign Y 1 long ", "same 1 1 long ", "answer 1 long ")

    def test_sixteen(self):
        for start in self.STARTS:
            for cells in ("0123456789abcdef", "fedcba9876543210", "0" * 16, "f" * 16):
                self.line_taken(start + cells)

    def test_wrong_lengths(self):
        for start in self.STARTS:
            for size in (0, 1, 8, 15, 17, 32):
                self.line_refused(start + "a" * size)

    def test_each_byte_in_first_and_last_cell(self):
        for start in self.STARTS:
            for byte in range(256):
                for cells in (chr(byte) + "a" * 15, "a" * 15 + chr(byte), "a" * 7 + chr(byte) + "a" * 8):
                    if byte in b"0123456789abcdef":
                        self.line_taken(start + cells)
                    else:
                        self.line_refused(start + cells)

    def test_capital_letters(self):
        for start in self.STARTS:
            for cells in ("0123456789ABCDEF", "0123456789abcdeF", "A" * 16, "g" * 16):
                self.line_refused(start + cells)


class Kinds(TextCase):
    def signs(self, number):
        return [sign(f"S{n}", n, 1 + n % 8) for n in range(number)]

    def test_most_signs(self):
        t = text("locker L", *self.signs(48))
        self.taken(t)
        self.assertEqual(means(t, [47]), [1, 47])
        self.assertEqual(means(t, [48]), [-4, 0])

    def test_most_kinds(self):
        sames = [same(k, 100 + k) for k in range(1, 5)]
        t = text("locker L", *self.signs(48), *sames, answer(200))
        self.assertEqual(means(t, [47, 48]), [2, 47, 47])
        self.assertEqual(means(t, [47, 0, 1, 2, 51]), [5, 47, 0, 1, 2, 2])
        self.assertEqual(means(t, [52]), [-9, 0])
        self.assertEqual(means(t, [53]), [-4, 0])

    def test_one_sign_too_many(self):
        self.refused(text("locker L", *self.signs(49)))
        self.refused(text("locker L", *self.signs(49), same(1, 100)))
        self.refused(text("locker L", *self.signs(60)))

    def test_name_twice(self):
        self.refused(text("locker L", sign("X", 1), sign("X", 2)))
        self.refused(text("locker L", sign("X", 1), sign("Y", 2), sign("X", 3)))
        self.refused(text("locker L", sign("Y", 2), sign("X", 1), sign("X", 3)))
        self.refused(text("locker L", *self.signs(47), sign("S0", 100)))

    def test_names_alike_but_not_the_same(self):
        self.taken(text("locker L", sign("X", 1), sign("XX", 2), sign("X0", 3), sign("0X", 4)))

    def test_k_that_does_not_rise(self):
        for k in range(1, 5):
            for later in range(1, 5):
                t = text("locker L", sign("X", 1), same(k, 2), same(later, 3))
                if later > k:
                    self.taken(t)
                else:
                    self.refused(t)
        self.refused(text("locker L", sign("X", 1), same(1, 2), same(3, 3), same(2, 4)))
        self.taken(text("locker L", sign("X", 1), same(1, 2), same(3, 3), same(4, 4)))

    def test_sign_behind_a_same(self):
        self.refused(text("locker L", sign("X", 1), same(1, 2), sign("Y", 3)))
        self.refused(text("locker L", same(1, 2), sign("X", 1)))

    def test_lines_behind_the_answer(self):
        for line in (sign("Y", 3), same(1, 3), same(4, 3), answer(3), "", "locker M", "A"):
            self.refused(text("locker L", sign("X", 1), answer(2), line))
            self.refused(text("locker L", sign("X", 1), same(2, 4), answer(2), line))
        self.refused(text("locker L", answer(2), sign("X", 1)))

    def test_answer_behind_signs_or_sames(self):
        self.taken(text("locker L", sign("X", 1), answer(2)))
        self.taken(text("locker L", sign("X", 1), same(1, 3), answer(2)))

    def test_shape_and_look_of_a_kind_before(self):
        for shape in ("square", "tails", "long"):
            for line in (sign("Y", 7, 2, shape), same(1, 7, 2, shape), answer(7, 2, shape)):
                self.refused(text("locker L", sign("X", 7, 1, shape), line))
                self.refused(text("locker L", sign("X", 7, 1, shape), sign("Z", 8), line))
                self.refused(text("locker L", sign("Z", 8), sign("X", 7, 1, shape), line))
            self.refused(text("locker L", sign("X", 1), same(1, 7, 1, shape), same(2, 7, 1, shape)))
            self.refused(text("locker L", sign("X", 1), same(1, 7, 1, shape), answer(7, 1, shape)))

    def test_same_look_with_another_shape(self):
        shapes = ("square", "tails", "long")
        for shape in shapes:
            for other in shapes:
                if other != shape:
                    self.taken(text("locker L", sign("X", 7, 1, shape), sign("Y", 7, 1, other)))
                    self.taken(text("locker L", sign("X", 7, 1, shape), same(1, 7, 1, other)))
                    self.taken(text("locker L", sign("X", 7, 1, shape), answer(7, 1, other)))

    def test_looks_that_differ_in_one_cell(self):
        for cell in range(16):
            self.taken(text("locker L", sign("X", 0), sign("Y", 1 << (4 * cell))))


if __name__ == "__main__":
    unittest.main()
