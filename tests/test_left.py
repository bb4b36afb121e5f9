import itertools
import unittest

from words import (
    COLOURS, FAULTS, MANY_CALLS, RUN_BOOK, RUN_CHART, CallCase, book_of, chart_of_needs, dyeings_of_colour,
    full_book, left_by_the_words, lines_of, plain_chart, small_cases,
)
from wooldyes.shares import left, share

A = ord("a")
B = ord("b")
C = ord("c")
D = ord("d")


class LeftCase(CallCase):
    def leaves(self, row_needs, dyeings, expected):
        """With rows that need so many knots of a, and these dyeings of a, shade and knots."""
        answered = left(A, list(chart_of_needs(row_needs)), list(book_of(dyeings)))
        self.assertEqual(answered, expected, (row_needs, dyeings))


class TheRun(LeftCase):
    def test_of_a(self):
        self.assertEqual(left(A, list(RUN_CHART), list(RUN_BOOK)), [0, 0, 3, 0])

    def test_of_b_no_dyeing(self):
        self.assertEqual(left(B, list(RUN_CHART), list(RUN_BOOK)), [-5])

    def test_of_c_no_need_and_no_dyeing(self):
        self.assertEqual(left(C, list(RUN_CHART), list(RUN_BOOK)), [0])


class Refusals(LeftCase):
    def test_nothing_is_refused_of_what_is_right(self):
        self.refuses(left, [], [0, 0, 3, 0])

    def test_each_alone(self):
        self.refuses_each_alone(left, FAULTS)

    def test_each_two_together(self):
        self.refuses_the_first_of_two(left, FAULTS)


class Knots(LeftCase):
    def test_dyeings_that_the_way_does_not_take(self):
        self.leaves([3, 3], [(90, 5), (10, 6), (10, 7)], [0, 5, 0, 7])
        self.leaves([3, 3], [(90, 3), (10, 4), (11, 5), (999, 99999)], [0, 3, 4, 5, 99993])

    def test_used_up_to_the_last_knot(self):
        self.leaves([2, 3, 4], [(5, 9)], [0, 0])
        self.leaves([2, 3, 4], [(5, 5), (6, 4)], [0, 0, 0])

    def test_some_knots_left(self):
        self.leaves([2, 3, 4], [(5, 10)], [0, 1])
        self.leaves([2, 3, 4], [(5, 8), (6, 7)], [0, 3, 3])
        self.leaves([1], [(5, 99999)], [0, 99998])

    def test_knots_left_that_a_later_row_would_need(self):
        # Dyeing 0 has 2 knots left, but the last row is not given to it again.
        self.leaves([2, 5, 2], [(10, 4), (10, 7)], [0, 2, 0])
        self.leaves([2, 5, 2], [(10, 4), (10, 6), (10, 3)], [0, 2, 1, 1])

    def test_rows_without_the_colour_take_no_knots(self):
        self.leaves([0, 2, 0, 0, 2, 0], [(5, 5)], [0, 1])
        self.leaves([2, 0, 2], [(10, 2), (12, 1), (14, 3)], [0, 0, 1, 1])


class NoRowNeedsIt(LeftCase):
    def test_without_dyeings_of_it(self):
        self.leaves([0, 0], [], [0])
        self.assertEqual(left(C, list(RUN_CHART), []), [0])

    def test_with_dyeings_of_it(self):
        self.leaves([0, 0], [(5, 7)], [0, 7])
        self.leaves([0, 0], [(5, 7), (3, 99999), (5, 1), (1, 2), (8, 3), (4, 4)], [0, 7, 99999, 1, 2, 3, 4])
        self.assertEqual(left(C, list(RUN_CHART), list(RUN_BOOK + b"b 1 1\nc 5 8\nc 4 9\nd 1 1\n")), [0, 8, 9])


class TheBooksOrder(LeftCase):
    def test_a_way_whose_order_is_not_the_books(self):
        self.leaves([1, 5], [(5, 5), (7, 1)], [0, 0, 0])
        self.leaves([3, 9], [(5, 11), (7, 4)], [0, 2, 1])
        self.leaves([2, 2, 2], [(30, 2), (10, 2), (20, 3)], [0, 0, 0, 1])

    def test_all_six_in_another_order(self):
        dyeings = [(500, 10), (0, 21), (999, 32), (10, 43), (700, 54), (3, 65)]
        # Each row is more than what is left of the dyeing ahead; 2 0 5 1 4 3 take a row each.
        needed = [32, 10, 64, 20, 53, 41]
        self.assertEqual(share(A, list(chart_of_needs(needed)), list(book_of(dyeings)))[1::4], [2, 0, 5, 1, 4, 3])
        self.leaves(needed, dyeings, [0, 0, 1, 0, 2, 1, 1])

    def test_every_order_of_six(self):
        for order in itertools.permutations(range(6)):
            needed = [2 * number + 20 for number in order]
            self.leaves(needed, [(9, 2 * number + 21) for number in range(6)], [0, 1, 1, 1, 1, 1, 1])

    def test_dyeings_of_other_colours_are_left_out(self):
        for before, behind in itertools.product((b"", b"a 1 99999\nb 2 99999\n"), (b"", b"A 1 99999\n9 2 99999\n")):
            book = before + RUN_BOOK.replace(b"a", b"m") + behind
            self.assertEqual(left(ord("m"), list(RUN_CHART.replace(b"a", b"m")), list(book)), [0, 0, 3, 0])

    def test_every_colour(self):
        book = list(b"".join(book_of([(5, 1), (8, number + 3)], colour) for number, colour in enumerate(COLOURS)))
        for number, colour in enumerate(COLOURS):
            self.assertEqual(left(colour, [colour, 10, colour, 10], book), [0, 1, number + 1])


class WaysToGetItWrong(LeftCase):
    def test_a_row_shared_by_two_dyeings(self):
        self.leaves([3, 3], [(5, 4), (5, 2)], [-5])
        self.leaves([3, 3], [(5, 4), (5, 2), (900, 3)], [0, 1, 2, 0])

    def test_the_nearest_shade_next(self):
        # By 10, 12, 7 and 20 there would be 0 2 1 2 left; by 10, 7, 12 and 20 it costs less.
        self.leaves([5, 2, 3, 2], [(10, 5), (12, 4), (7, 4), (20, 4)], [0, 0, 1, 2, 2])

    def test_a_dyeing_left_and_taken_again(self):
        self.leaves([2, 5, 2], [(10, 4), (10, 5), (60, 3)], [0, 2, 0, 1])

    def test_one_that_takes_no_row_in_between(self):
        self.leaves([3, 3], [(10, 3), (12, 1), (14, 4)], [0, 0, 1, 1])

    def test_fewest_dyeings_before_cost(self):
        self.leaves([3, 3, 3], [(0, 6), (100, 3), (50, 3), (51, 3), (52, 3)], [0, 6, 3, 0, 0, 0])

    def test_costs_of_shades_from_the_first(self):
        self.leaves([3, 4, 3], [(0, 5), (10, 6), (20, 4)], [0, 2, 2, 1])

    def test_knots_of_all_rows_against_all_dyeings_together(self):
        self.leaves([3, 3], [(5, 5), (5, 1)], [-5])

    def test_a_seventh_dyeing_taken(self):
        self.assertEqual(left(A, list(chart_of_needs([1] * 7)), list(lines_of(b"aaaaaaa"))), [-6])
        self.assertEqual(left(A, list(chart_of_needs([1] * 7)), list(lines_of(b"aaaaaa"))), [-5])


class OverManyChartsAndBooks(LeftCase):
    def test_by_a_search_of_all_ways(self):
        for chart, book in small_cases(16, 300):
            for colour in (A, B, C, D):
                answered = left(colour, list(chart), list(book))
                self.assertEqual(answered, left_by_the_words(colour, chart, book), (colour, chart, book))

    def test_what_is_left_and_what_share_tells_are_what_the_book_has(self):
        for chart, book in small_cases(17, 500):
            for colour in (A, B, C, D):
                told = share(colour, list(chart), list(book))
                answered = left(colour, list(chart), list(book))
                if told[0] < 0:
                    self.assertEqual(answered, told)
                    continue
                together = answered[1:]
                for number, knots in zip(told[1::4], told[4::4]):
                    together[number] += knots
                self.assertEqual(together, [knots for shade, knots in dyeings_of_colour(colour, book)])
                self.assertTrue(all(knots >= 0 for knots in answered))


class Large(LeftCase):
    def test_512_rows_with_a_book_of_256_lines(self):
        own = book_of([(500, 11008), (100, 11009), (900, 11010), (300, 11011), (0, 11012), (700, 11013)])
        book = list(own + full_book(b" 5 99999\n").split(b"\n", 6)[6])
        # Dyeing 4 comes last and takes 82 rows, the others 86 each.
        self.assertEqual(left(A, list(plain_chart(128, 512)), book), [0, 0, 1, 2, 3, 516, 5])
        self.assertEqual(self.with_few_calls_within(left, A, list(plain_chart(128, 512)), book)[0], 0)
        self.assertEqual(left(B, list(plain_chart(128, 512)), book), [0] + [99999] * 6)


class TheCall(LeftCase):
    def test_what_is_handed_in_stays(self):
        self.leaves_what_is_handed_in(left, MANY_CALLS)
        self.leaves_what_is_handed_in(left, [(A, plain_chart(128, 512), full_book(b" 9 11008\n"))])

    def test_a_second_call_answers_like_the_first(self):
        self.answers_again_alike(left, MANY_CALLS)

    def test_answers_are_new_lists_of_whole_numbers(self):
        self.keeps_no_answer(left, MANY_CALLS)
        self.answers_whole_numbers(left, MANY_CALLS)

    def test_the_arguments_names(self):
        self.assertEqual(left(colour=A, t=list(RUN_CHART), b=list(RUN_BOOK)), [0, 0, 3, 0])

    def test_the_tests_own_measure_is_held_to_the_run(self):
        self.assertEqual(left_by_the_words(A, RUN_CHART, RUN_BOOK), [0, 0, 3, 0])
        self.assertEqual(left_by_the_words(B, RUN_CHART, RUN_BOOK), [-5])


if __name__ == "__main__":
    unittest.main()
