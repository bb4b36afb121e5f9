import itertools
import unittest

from words import COLOURS, CallCase, dyeings_of_book, full_book, judge_by_the_words, lines_of, text
from wooldyes.shares import NO_COLOUR, colour_number, judge


class JudgeCase(CallCase):
    def answers(self, written, expected):
        self.assertEqual(judge(text(written)), expected, written)

    def answers_raw(self, raw, expected):
        self.assertEqual(judge(list(raw)), expected, raw)

    def as_the_words_say(self, raw):
        self.assertEqual(judge(list(raw)), judge_by_the_words(raw), raw)


class TheRun(JudgeCase):
    def test_the_right_book(self):
        self.answers("a 10 4/a 14 3/a 11 3/", [3])

    def test_the_four_faults(self):
        self.answers("b 1 1/a 1 1/", [-6, 6])
        self.answers("a 1000 1/", [-6, 5])
        self.answers("a 01 1/", [-6, 3])
        self.answers("a 1 0/", [-6, 4])


class Colours(JudgeCase):
    def test_the_62_bytes_and_their_numbers(self):
        self.assertEqual([colour_number(byte) for byte in COLOURS], list(range(62)))

    def test_no_other_byte_is_a_colour(self):
        for byte in range(256):
            if byte not in COLOURS:
                self.assertEqual(colour_number(byte), NO_COLOUR)
                self.answers_raw(bytes([byte]) + b" 1 1\n", [-6, 0])


class RightBooks(JudgeCase):
    def test_empty(self):
        self.answers("", [0])

    def test_one_dyeing(self):
        self.answers("a 1 1/", [1])

    def test_several_colours(self):
        self.answers("a 10 4/a 14 3/c 0 99999/Q 999 1/Q 999 1/7 50 200/", [6])

    def test_smallest_and_largest_shade(self):
        self.answers("a 0 1/", [1])
        self.answers("a 999 1/", [1])

    def test_smallest_and_largest_knots(self):
        self.answers("a 1 1/", [1])
        self.answers("a 1 99999/", [1])

    def test_every_shade(self):
        for shade in range(1000):
            self.answers(f"k {shade} 20/", [1])

    def test_knots_of_every_length(self):
        for knots in (1, 9, 10, 99, 100, 101, 999, 1000, 9999, 10000, 10001, 50000, 99998, 99999):
            self.answers(f"k 3 {knots}/", [1])

    def test_zeros_that_are_not_needless(self):
        self.answers("a 100 10000/b 10 90/c 200 1001/", [3])

    def test_each_colour_alone(self):
        for colour in COLOURS:
            self.answers_raw(lines_of([colour]), [1])

    def test_all_colours_in_their_order(self):
        self.answers_raw(lines_of(COLOURS), [62])

    def test_order_of_every_two_colours(self):
        for first, second in itertools.product(range(62), repeat=2):
            expected = [2] if first <= second else [-6, 6]
            self.answers_raw(lines_of([COLOURS[first], COLOURS[second]]), expected)

    def test_order_among_the_three_kinds(self):
        self.answers("z 1 1/A 1 1/Z 1 1/0 1 1/9 1 1/", [5])
        self.answers("A 1 1/z 1 1/", [-6, 6])
        self.answers("0 1 1/Z 1 1/", [-6, 6])
        self.answers("0 1 1/a 1 1/", [-6, 6])

    def test_one_to_six_of_each_colour(self):
        for colour in COLOURS:
            for many in range(1, 7):
                self.answers_raw(lines_of([colour] * many), [many])

    def test_dyeings_that_are_alike_count_each(self):
        self.answers("a 5 5/a 5 5/a 5 5/", [3])

    def test_shades_and_knots_may_fall(self):
        self.answers("a 9 9/a 3 30/a 7 1/b 2 2/", [4])

    def test_256_lines(self):
        self.answers_raw(full_book(b" 1 1\n"), [256])
        self.answers_raw(full_book(b" 999 99999\n"), [256])

    def test_each_number_of_lines(self):
        book = full_book(b" 1 1\n")
        for lines in range(257):
            self.answers_raw(book[:6 * lines], [lines])


class Edges(JudgeCase):
    def test_4096_bytes_and_more(self):
        for filler in (b"a", b" ", b"\n", b"\x00", b"\xff"):
            expected = [-6, 1] if filler == b"a" else [-6, 0]
            self.answers_raw(filler * 4095, expected)
            self.answers_raw(filler * 4096, expected)
            self.answers_raw(filler * 4097, [-2])
            self.answers_raw(filler * 5000, [-2])

    def test_a_full_book_with_more_behind_it(self):
        book = full_book(b" 999 99999\n")
        self.assertEqual(len(book), 3072)
        self.answers_raw((book + lines_of(b"Z") * 200)[:4096], [-6, 3072])
        self.answers_raw((book + lines_of(b"Z") * 200)[:4097], [-2])

    def test_too_long_is_told_before_the_fault(self):
        self.answers_raw((b"a 01 1\n" * 700)[:4096], [-6, 3])
        self.answers_raw((b"a 01 1\n" * 700)[:4097], [-2])

    def test_a_257th_line(self):
        for rest in (b" 1 1\n", b" 999 99999\n"):
            book = full_book(rest)
            for colour in (COLOURS[42:43], COLOURS[43:44], b"9"):
                self.answers_raw(book + colour + rest, [-6, len(book)])
                self.answers_raw(book + colour, [-6, len(book)])

    def test_a_seventh_dyeing_of_each_colour(self):
        for colour in COLOURS:
            self.answers_raw(lines_of([colour] * 7), [-6, 36])
            self.answers_raw(lines_of([colour] * 6) + bytes([colour]), [-6, 36])

    def test_a_seventh_dyeing_behind_other_colours(self):
        self.answers_raw(lines_of(b"a" * 6 + b"b" * 6 + b"c"), [13])
        self.answers_raw(lines_of(b"a" * 6 + b"b" * 7), [-6, 72])
        self.answers_raw(lines_of(b"abbbbbbb"), [-6, 42])

    def test_nothing_follows_six_of_the_last_colour(self):
        book = lines_of(b"9" * 6)
        for byte in range(256):
            self.answers_raw(book + bytes([byte]), [-6, 36])

    def test_colours_that_fall(self):
        self.answers("a 1 1/c 1 1/b 1 1/", [-6, 12])
        self.answers("a 1 1/b 1 1/a 1 1/", [-6, 12])
        self.answers("b 1 1/a", [-6, 6])

    def test_a_needless_0(self):
        self.answers("a 00 1/", [-6, 3])
        self.answers("a 000 1/", [-6, 3])
        self.answers("a 010 1/", [-6, 3])
        self.answers("a 1 01/", [-6, 4])
        self.answers("a 1 00001/", [-6, 4])

    def test_a_shade_of_more_than_999(self):
        self.answers("a 999 1/", [1])
        self.answers("a 1000 1/", [-6, 5])
        self.answers("a 9990 1/", [-6, 5])
        self.answers("a 123456789012345678901234567890 1/", [-6, 5])

    def test_knots_of_0_and_of_more_than_99999(self):
        self.answers("a 999 0/", [-6, 6])
        self.answers("a 1 100000/", [-6, 9])
        self.answers("a 1 999990/", [-6, 9])
        self.answers("a 1 123456789012345678901234567890/", [-6, 9])


class WrongTexts(JudgeCase):
    def test_cut_off_at_every_byte(self):
        line = b"a 999 99999\n"
        for before, dyeings in ((b"", 0), (b"a 0 1\n", 1), (lines_of(b"a" * 5), 5)):
            for cut in range(1, len(line)):
                self.answers_raw(before + line[:cut], [-6, len(before) + cut])
            self.answers_raw(before + line, [dyeings + 1])

    def test_a_missing_last_byte_10(self):
        self.answers("a 1 1", [-6, 5])
        self.answers("a 999 99999", [-6, 11])
        self.answers("a 1 1/b 2 2", [-6, 11])
        self.answers_raw(full_book(b" 1 1\n")[:-1], [-6, 256 * 6 - 1])

    def test_a_byte_at_every_place(self):
        for book in (b"c 120 4500\n", b"c 0 1\n", b"a 999 99999\nc 1 1\nc 20 30\nd 5 5\n"):
            for place, byte in itertools.product(range(len(book)), range(256)):
                wrong = bytes([byte])
                self.as_the_words_say(book[:place] + wrong + book[place + 1:])
                self.as_the_words_say(book[:place] + wrong + book[place:])

    def test_bytes_that_no_text_has_at_every_place(self):
        book = b"a 12 34\nb 5 6\n"
        strange = (0, 9, 11, 13, 31, 33, 47, 58, 64, 91, 96, 123, 128, 255)
        for place, byte in itertools.product(range(len(book) + 1), strange):
            self.answers_raw(book[:place] + bytes([byte]) + book[place:], [-6, place])

    def test_a_byte_left_out_at_every_place(self):
        book = b"a 12 345\nb 10 60\n"
        for place in range(len(book)):
            self.as_the_words_say(book[:place] + book[place + 1:])

    def test_two_blanks(self):
        self.answers("a  1 1/", [-6, 2])
        self.answers("a 1  1/", [-6, 4])

    def test_blanks_around_a_line(self):
        self.answers(" a 1 1/", [-6, 0])
        self.answers("a 1 1 /", [-6, 5])
        self.answers("a 1 1/ ", [-6, 6])

    def test_an_empty_line(self):
        self.answers("/", [-6, 0])
        self.answers("/a 1 1/", [-6, 0])
        self.answers("a 1 1//", [-6, 6])
        self.answers("a 1 1//b 1 1/", [-6, 6])

    def test_other_ends_of_a_line(self):
        self.answers_raw(b"a 1 1\r\n", [-6, 5])
        self.answers_raw(b"a 1 1\r", [-6, 5])

    def test_missing_parts(self):
        self.answers("a/", [-6, 1])
        self.answers("a /", [-6, 2])
        self.answers("a 1/", [-6, 3])
        self.answers("a 1 /", [-6, 4])
        self.answers("a11/", [-6, 1])
        self.answers("1 1/", [-6, 3])

    def test_signs_and_fractions(self):
        self.answers("a -1 1/", [-6, 2])
        self.answers("a +1 1/", [-6, 2])
        self.answers("a 1 -1/", [-6, 4])
        self.answers("a 1.0 1/", [-6, 3])
        self.answers("a 1 1.0/", [-6, 5])

    def test_a_second_colour_or_number(self):
        self.answers("aa 1 1/", [-6, 1])
        self.answers("a 1 1 1/", [-6, 5])
        self.answers("a 1 1a 1 1/", [-6, 5])

    def test_the_first_of_several_faults_is_told(self):
        self.answers("b 1 1/a 1000 0/", [-6, 6])
        self.answers("b 1 1/b 1000 0/a", [-6, 11])

    def test_every_short_text(self):
        for length in range(7):
            for signs in itertools.product(b"ab 01\n", repeat=length):
                self.as_the_words_say(bytes(signs))


class OneText(JudgeCase):
    """A book is one text: other ways to write the same dyeings are no book's."""

    def test_other_ways_to_write_a_dyeing(self):
        self.answers("a 7 80/", [1])
        for other in ("a 07 80/", "a 7 080/", "a 7 80", "a  7 80/", "a 7 80 /", "a 7 80//", "a +7 80/", "a\t7 80/"):
            self.assertEqual(judge(text(other))[0], -6, other)

    def test_right_texts_are_those_that_are_written_from_dyeings(self):
        for shade, knots in itertools.product(("0", "5", "00", "05", "50", "050"), ("0", "5", "05", "50", "050")):
            line = f"a {shade} {knots}\n"
            written_back = f"a {int(shade)} {int(knots)}\n"
            right = line == written_back and int(knots) > 0
            self.assertEqual(judge(text(line)) == [1], right, line)


class TheCall(JudgeCase):
    TEXTS = ("", "a 10 4/a 14 3/a 11 3/", "b 1 1/a 1 1/", "a 1000 1/", "a 01 1/", "a 1 0/", "a 1 1", "a" * 4097)

    def arguments(self):
        return [(text(written),) for written in self.TEXTS]

    def test_what_is_handed_in_stays(self):
        self.leaves_what_is_handed_in(judge, self.arguments())

    def test_a_second_call_answers_like_the_first(self):
        self.answers_again_alike(judge, self.arguments())

    def test_an_answer_that_is_changed_changes_no_other(self):
        self.keeps_no_answer(judge, self.arguments())

    def test_answers_are_lists_of_whole_numbers(self):
        self.answers_whole_numbers(judge, self.arguments())

    def test_long_texts_need_no_deep_calls(self):
        book = list(full_book(b" 999 99999\n"))
        self.assertEqual(self.with_few_calls_within(judge, book), [256])
        self.assertEqual(self.with_few_calls_within(judge, book + [48] * 1024), [-6, 3072])
        self.assertEqual(self.with_few_calls_within(judge, [48] * 4096), [-6, 1])


class TheWords(unittest.TestCase):
    """The tests' own measure is held to the document's run."""

    def test_the_run(self):
        self.assertEqual(dyeings_of_book(b"a 10 4\na 14 3\na 11 3\n"), 3)
        for written, place in (("b 1 1/a 1 1/", 6), ("a 1000 1/", 5), ("a 01 1/", 3), ("a 1 0/", 4)):
            self.assertEqual(judge_by_the_words(bytes(text(written))), [-6, place])


if __name__ == "__main__":
    unittest.main()
