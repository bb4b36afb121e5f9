import itertools
import unittest

from words import COLOURS, NO_COLOURS, CallCase, chart_of, needs_by_the_words, plain_chart, rows_of_chart, text
from wooldyes.shares import needs

A = ord("a")
B = ord("b")
C = ord("c")
RUN = "aab/aba/bbb/aaa/"


class NeedsCase(CallCase):
    def answers(self, colour, written, expected):
        self.assertEqual(needs(colour, text(written)), expected, (colour, written))

    def answers_raw(self, colour, raw, expected):
        # Charts may be too long to be shown.
        self.assertTrue(needs(colour, list(raw)) == expected, (colour, len(raw), raw[:40]))

    def as_the_words_say(self, colour, raw):
        self.answers_raw(colour, raw, needs_by_the_words(colour, raw))


class TheRun(NeedsCase):
    def test_the_needs_of_a_b_and_c(self):
        self.answers(A, RUN, [0, 2, 2, 0, 3])
        self.answers(B, RUN, [0, 1, 1, 3, 0])
        self.answers(C, RUN, [0, 0, 0, 0, 0])


class RightCharts(NeedsCase):
    def test_one_knot(self):
        self.answers(A, "a/", [0, 1])
        self.answers(B, "a/", [0, 0])

    def test_one_row_and_one_column(self):
        self.answers(A, "abaab/", [0, 3])
        self.answers(A, "a/b/a/a/b/", [0, 1, 0, 1, 1, 0])

    def test_512_wide_and_128_high(self):
        self.answers_raw(A, plain_chart(512, 128), [0] + [512] * 128)
        self.answers_raw(B, plain_chart(512, 128), [0] + [0] * 128)

    def test_128_wide_and_512_high(self):
        self.answers_raw(A, plain_chart(128, 512), [0] + [128] * 512)
        self.answers_raw(B, plain_chart(128, 512), [0] + [0] * 512)

    def test_1_wide_and_512_high(self):
        self.answers_raw(A, plain_chart(1, 512), [0] + [1] * 512)

    def test_512_wide_and_1_high(self):
        self.answers_raw(A, plain_chart(512, 1), [0, 512])

    def test_each_need_in_a_large_chart(self):
        rows = [b"a" * (k % 129) + b"b" * (128 - k % 129) for k in range(512)]
        self.answers_raw(A, chart_of(rows), [0] + [k % 129 for k in range(512)])
        self.answers_raw(B, chart_of(rows), [0] + [128 - k % 129 for k in range(512)])

    def test_knots_are_counted_wherever_they_stand_in_a_row(self):
        for places in itertools.product("ab", repeat=6):
            row = "".join(places)
            self.answers(A, row + "/", [0, row.count("a")])

    def test_every_colour_alone(self):
        for colour in COLOURS:
            self.answers_raw(colour, bytes([colour]) + b"\n", [0, 1])

    def test_every_colour_in_one_row(self):
        for colour in COLOURS:
            self.answers_raw(colour, chart_of([COLOURS, COLOURS[::-1]]), [0, 1, 1])

    def test_every_colour_in_rows_of_its_own(self):
        chart = chart_of([bytes([colour]) * 3 for colour in COLOURS])
        for number, colour in enumerate(COLOURS):
            expected = [0] * 63
            expected[1 + number] = 3
            self.answers_raw(colour, chart, expected)

    def test_large_and_small_letters_are_not_one_colour(self):
        self.answers(ord("a"), "aAA/AAA/", [0, 1, 0])
        self.answers(ord("A"), "aAA/AAA/", [0, 2, 3])

    def test_a_digit_is_a_colour_and_no_number(self):
        self.answers(ord("3"), "3b3/b3b/", [0, 2, 1])


class RowsWithoutTheColour(NeedsCase):
    def test_no_row_needs_it(self):
        self.answers(A, "b/", [0, 0])
        self.answers(A, "bc/cb/bb/", [0, 0, 0, 0])

    def test_at_the_top(self):
        self.answers(A, "bb/bb/ab/aa/", [0, 0, 0, 1, 2])

    def test_between(self):
        self.answers(A, "aa/bb/bb/ba/bb/aa/", [0, 2, 0, 0, 1, 0, 2])

    def test_at_the_end(self):
        self.answers(A, "aa/ab/bb/bb/", [0, 2, 1, 0, 0])

    def test_at_the_top_between_and_at_the_end(self):
        self.answers(A, "bb/aa/bb/ab/bb/", [0, 0, 2, 0, 1, 0])


class NoRightCharts(NeedsCase):
    def test_the_empty_text(self):
        self.answers(A, "", [-6])

    def test_without_the_last_byte_10(self):
        self.answers(A, "a", [-6])
        self.answers(A, "aa/aa", [-6])
        self.answers(A, RUN[:-1], [-6])
        self.answers_raw(A, plain_chart(128, 512)[:-1], [-6])

    def test_an_empty_row(self):
        for written in ("/", "//", "/aa/aa/", "aa//aa/", "aa/aa//", "/////"):
            self.answers(A, written, [-6])

    def test_rows_of_unlike_width(self):
        for written in ("a/aa/", "aa/a/", "aa/aaa/aa/", "aa/aa/a/", "aa/aa/aaa/", "aaa/aa/aaaa/"):
            self.answers(A, written, [-6])

    def test_unlike_widths_as_many_knots_as_a_right_chart(self):
        self.answers(A, "aaa/a/", [-6])
        self.answers(A, "aa/a/aaa/", [-6])
        self.answers(A, "aa/aaaaa/", [-6])

    def test_513_wide(self):
        self.answers_raw(A, plain_chart(512, 1), [0, 512])
        self.answers_raw(A, plain_chart(513, 1), [-6])
        self.answers_raw(A, plain_chart(513, 2), [-6])
        self.answers_raw(A, plain_chart(60000, 1), [-6])

    def test_513_high(self):
        self.answers_raw(A, plain_chart(1, 512), [0] + [1] * 512)
        self.answers_raw(A, plain_chart(1, 513), [-6])
        self.answers_raw(A, plain_chart(2, 513), [-6])
        self.answers_raw(A, plain_chart(1, 30000), [-6])

    def test_more_than_65536_knots(self):
        self.answers_raw(A, plain_chart(256, 256), [0] + [256] * 256)
        self.answers_raw(A, plain_chart(257, 255), [0] + [257] * 255)
        # 65,538, 65,664, 65,792 and 65,919 knots in texts that are not too long.
        for width, height in ((331, 198), (342, 192), (257, 256), (511, 129)):
            self.assertLessEqual((width + 1) * height, 66048)
            self.answers_raw(A, plain_chart(width, height), [-6])

    def test_every_byte_that_is_no_colour(self):
        for byte in range(256):
            wrong = bytes([byte])
            for before, behind in ((b"", b"\n"), (b"ab", b"\n"), (b"abc\nb", b"c\nabc\n"), (b"abc\nab", b"\n")):
                raw = before + wrong + behind
                self.as_the_words_say(A, raw)
                self.assertEqual(needs(A, list(raw))[0], 0 if byte in COLOURS else -6)

    def test_one_wrong_byte_in_a_large_chart(self):
        chart = plain_chart(128, 512)
        for place in (0, 127, 128, 129, 33000, 66045, 66046, 66047):
            self.answers_raw(A, chart[:place] + b" " + chart[place + 1:], [-6])

    def test_bytes_behind_the_last_row(self):
        for behind in ("a", "/", " ", "aa", "b/", "aaaa/", "\0", "\r"):
            self.answers(A, RUN + behind, [-6])

    def test_other_ends_of_a_row(self):
        self.answers_raw(A, b"aa\r\naa\r\n", [-6])
        self.answers_raw(A, b"aa\raa\r", [-6])
        self.answers_raw(A, b"aa\x00", [-6])

    def test_blanks(self):
        for written in (" aa/", "aa /", "a a/", "aa/ "):
            self.answers(A, written, [-6])


class LongTexts(NeedsCase):
    def test_exactly_66048_bytes(self):
        right = plain_chart(128, 512)
        self.assertEqual(len(right), 66048)
        self.answers_raw(A, right, [0] + [128] * 512)
        self.answers_raw(A, b"a" * 66048, [-6])
        self.answers_raw(A, b"\n" * 66048, [-6])

    def test_more_than_66048_bytes(self):
        right = plain_chart(128, 512)
        for behind in (b"a", b"\n", b" ", b"a" * 452):
            self.answers_raw(A, right + behind, [-2])
        self.answers_raw(A, plain_chart(256, 257), [-2])
        self.answers_raw(A, plain_chart(512, 129), [-2])

    def test_too_long_and_wrong_too(self):
        for filler in (b"a", b" ", b"\n", b"\x00", b"\xff"):
            self.answers_raw(A, filler * 66048, [-6])
            self.answers_raw(A, filler * 66049, [-2])
            self.answers_raw(A, filler * 66500, [-2])

    def test_too_long_with_a_wrong_colour(self):
        for colour in NO_COLOURS:
            self.answers_raw(colour, b"a" * 66049, [-2])


class NoColours(NeedsCase):
    def test_colours_that_are_none(self):
        for colour in NO_COLOURS:
            self.answers(colour, RUN, [-1])
            self.answers(colour, "a/", [-1])

    def test_a_wrong_text_with_a_wrong_colour(self):
        for colour, written in itertools.product(NO_COLOURS, ("", "a", "/", "a/aa/", "a a/")):
            self.answers(colour, written, [-6])

    def test_every_number_up_to_600(self):
        for colour in range(600):
            self.as_the_words_say(colour, chart_of([COLOURS, COLOURS]))
            self.assertEqual(needs(colour, text(RUN)) == [-1], colour not in list(COLOURS))

    def test_numbers_that_are_a_colour_by_their_last_byte_alone(self):
        for colour, above in itertools.product(COLOURS, (1, 2, 255, 256, 65536, 16777215)):
            self.answers(colour + 256 * above, RUN, [-1])


class ByTheWords(NeedsCase):
    def test_every_short_text(self):
        for length in range(8):
            for signs in itertools.product(b"aB \n", repeat=length):
                self.as_the_words_say(A, bytes(signs))

    def test_widths_and_heights_around_the_edges(self):
        edges = (1, 2, 127, 128, 129, 255, 256, 257, 511, 512, 513)
        for width, height in itertools.product(edges, repeat=2):
            # What is handed in has at most 66,500 bytes.
            if (width + 1) * height <= 66500:
                self.as_the_words_say(A, plain_chart(width, height))

    def test_every_byte_left_out_or_doubled(self):
        chart = bytes(text("abA/9za/aaa/"))
        for place in range(len(chart)):
            self.as_the_words_say(A, chart[:place] + chart[place + 1:])
            self.as_the_words_say(A, chart[:place] + chart[place:place + 1] + chart[place:])


class TheCall(NeedsCase):
    MANY = (
        (A, text(RUN)), (B, text(RUN)), (C, text(RUN)), (A, text("a/")), (A, text("")), (A, text("aa/a/")),
        (353, text(RUN)), (10, text(RUN)), (A, [97] * 66049),
    )

    def test_what_is_handed_in_stays(self):
        self.leaves_what_is_handed_in(needs, self.MANY)
        self.leaves_what_is_handed_in(needs, [(A, plain_chart(128, 512))])

    def test_a_second_call_answers_like_the_first(self):
        self.answers_again_alike(needs, self.MANY)

    def test_an_answer_that_is_changed_changes_no_other(self):
        self.keeps_no_answer(needs, self.MANY)

    def test_answers_are_lists_of_whole_numbers(self):
        self.answers_whole_numbers(needs, self.MANY)

    def test_large_charts_need_no_deep_calls(self):
        for width, height in ((128, 512), (512, 128), (1, 512)):
            chart = list(plain_chart(width, height))
            self.assertEqual(self.with_few_calls_within(needs, A, chart), [0] + [width] * height)

    def test_the_arguments_names(self):
        self.assertEqual(needs(colour=A, t=text(RUN)), [0, 2, 2, 0, 3])


class TheWords(unittest.TestCase):
    """The tests' own measure is held to the document's run."""

    def test_the_run(self):
        self.assertEqual(rows_of_chart(bytes(text(RUN))), [b"aab", b"aba", b"bbb", b"aaa"])
        self.assertEqual(needs_by_the_words(A, bytes(text(RUN))), [0, 2, 2, 0, 3])
        self.assertEqual(needs_by_the_words(C, bytes(text(RUN))), [0, 0, 0, 0, 0])


if __name__ == "__main__":
    unittest.main()
