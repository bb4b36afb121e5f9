import itertools
import random
import unittest

from words import (
    COLOURS, FAULTS, MANY_CALLS, RUN_BOOK, RUN_CHART, CallCase, book_of, chart_of_needs, cost_by_the_words,
    cost_of_way, dyeings_of_colour, full_book, lines_of, needs_by_the_words, plain_chart, small_cases, ways_that_go,
)
from wooldyes.shares import cost, share

A = ord("a")
B = ord("b")
C = ord("c")
D = ord("d")


class CostCase(CallCase):
    def costs(self, row_needs, dyeings, expected):
        """With rows that need so many knots of a, and these dyeings of a, shade and knots."""
        answered = cost(A, list(chart_of_needs(row_needs)), list(book_of(dyeings)))
        self.assertEqual(answered, expected, (row_needs, dyeings))


class TheRun(CostCase):
    def test_of_a(self):
        self.assertEqual(cost(A, list(RUN_CHART), list(RUN_BOOK)), [1])

    def test_of_b_no_dyeing(self):
        self.assertEqual(cost(B, list(RUN_CHART), list(RUN_BOOK)), [-5])

    def test_of_c_no_need(self):
        self.assertEqual(cost(C, list(RUN_CHART), list(RUN_BOOK)), [0])
        self.assertEqual(cost(C, list(RUN_CHART), list(b"c 5 1\nc 900 1\n")), [0])


class Refusals(CostCase):
    def test_nothing_is_refused_of_what_is_right(self):
        self.refuses(cost, [], [1])

    def test_each_alone(self):
        self.refuses_each_alone(cost, FAULTS)

    def test_each_two_together(self):
        self.refuses_the_first_of_two(cost, FAULTS)


class Ways(CostCase):
    def test_of_one_dyeing(self):
        for shade in (0, 1, 500, 999):
            self.costs([3, 3], [(shade, 6)], [0])

    def test_one_dyeing_of_several(self):
        self.costs([3, 3], [(0, 3), (1, 3), (999, 6)], [0])

    def test_of_two(self):
        self.costs([3, 3], [(10, 3), (17, 3)], [7])
        self.costs([3, 3], [(17, 3), (10, 3)], [7])
        self.costs([3, 3], [(17, 3), (17, 3)], [0])

    def test_shades_0_and_999(self):
        self.costs([3, 3], [(0, 3), (999, 3)], [999])
        self.costs([3, 3], [(999, 3), (0, 3)], [999])
        self.costs([3, 3], [(999, 3), (999, 3)], [0])
        self.costs([3, 3], [(0, 3), (0, 3)], [0])
        self.costs([3, 3], [(998, 3), (999, 3)], [1])

    def test_every_two_shades_of_many(self):
        shades = (0, 1, 2, 9, 10, 11, 99, 100, 101, 500, 998, 999)
        for one, other in itertools.product(shades, repeat=2):
            self.costs([2, 2], [(one, 2), (other, 2)], [abs(one - other)])

    def test_of_six_that_rise(self):
        self.costs([1] * 6, [(0, 1), (10, 1), (30, 1), (60, 1), (100, 1), (999, 1)], [999])

    def test_of_six_in_another_order_than_the_books(self):
        self.costs([1] * 6, [(60, 1), (0, 1), (999, 1), (10, 1), (100, 1), (30, 1)], [999])

    def test_shades_that_rise_and_fall_along_the_way(self):
        # Each dyeing is just enough for one row, so that there is one way.
        self.costs([4, 5, 6], [(10, 4), (50, 5), (20, 6)], [40 + 30])
        self.costs([4, 5, 6], [(50, 4), (10, 5), (20, 6)], [40 + 10])
        self.costs([4, 5, 6, 7, 8, 9], [(0, 4), (999, 5), (0, 6), (999, 7), (0, 8), (999, 9)], [5 * 999])
        self.costs([4, 5, 6, 7, 8, 9], [(3, 4), (14, 5), (1, 6), (59, 7), (26, 8), (53, 9)], [11 + 13 + 58 + 33 + 27])

    def test_one_way_of_six_in_every_order(self):
        shades = (7, 300, 301, 12, 999, 0)
        for order in itertools.permutations(range(6)):
            needed = [number + 4 for number in order]
            dyeings = [(shades[number], number + 4) for number in range(6)]
            self.costs(needed, dyeings, [cost_of_way(dyeings, order)])

    def test_the_largest_cost(self):
        self.costs([4, 5, 6, 7, 8, 9], [(999, 4), (0, 5), (999, 6), (0, 7), (999, 8), (0, 9)], [4995])


class WaysToGetItWrong(CostCase):
    def test_a_row_shared_by_two_dyeings(self):
        self.costs([3, 3], [(5, 4), (5, 2)], [-5])
        self.costs([3, 3], [(5, 4), (5, 2), (900, 3)], [895])

    def test_the_nearest_shade_next(self):
        self.costs([5, 1, 1, 1], [(10, 5), (12, 1), (7, 1), (20, 1)], [16])

    def test_dyeings_in_their_lines_order(self):
        self.costs([1, 5], [(5, 5), (7, 1)], [2])
        self.costs([2, 2, 2], [(30, 2), (10, 2), (20, 2)], [20])

    def test_a_dyeing_left_and_taken_again(self):
        self.costs([2, 5, 2], [(10, 4), (10, 5)], [-5])
        self.costs([2, 5, 2], [(10, 4), (10, 5), (60, 2)], [50])

    def test_one_that_takes_no_row_in_between(self):
        self.costs([3, 3], [(10, 3), (900, 1), (14, 3)], [4])

    def test_fewest_dyeings_before_cost(self):
        self.costs([3, 3, 3], [(0, 6), (100, 3), (50, 3), (51, 3), (52, 3)], [2])

    def test_rows_without_the_colour_counted(self):
        self.costs([2, 0, 2], [(10, 2), (12, 1), (14, 2)], [4])
        self.costs([0, 2, 0, 0, 2, 0], [(5, 2), (6, 2)], [1])

    def test_costs_of_shades_from_the_first(self):
        self.costs([3, 3, 3], [(5, 3), (15, 3), (30, 3)], [25])
        self.costs([4, 5, 6], [(10, 4), (50, 5), (60, 6)], [50])

    def test_knots_of_all_rows_against_all_dyeings_together(self):
        self.costs([3, 3], [(5, 5), (5, 1)], [-5])

    def test_a_seventh_dyeing_taken(self):
        rows = list(chart_of_needs([1] * 7))
        self.assertEqual(cost(A, rows, list(lines_of(b"aaaaaaa"))), [-6])
        self.assertEqual(cost(A, rows, list(lines_of(b"aaaaaa"))), [-5])


class OverManyChartsAndBooks(CostCase):
    def test_by_a_search_of_all_ways(self):
        for chart, book in small_cases(7, 300):
            for colour in (A, B, C, D):
                answered = cost(colour, list(chart), list(book))
                self.assertEqual(answered, cost_by_the_words(colour, chart, book), (colour, chart, book))

    def test_the_cost_is_of_the_way_that_share_tells(self):
        for chart, book in small_cases(8, 500):
            for colour in (A, B, C, D):
                told = share(colour, list(chart), list(book))
                answered = cost(colour, list(chart), list(book))
                if told[0] < 0:
                    self.assertEqual(answered, told)
                else:
                    self.assertEqual(answered, [cost_of_way(dyeings_of_colour(colour, book), told[1::4])])

    def test_no_way_that_goes_costs_less(self):
        for chart, book in small_cases(9, 200):
            dyeings = dyeings_of_colour(A, book)
            answered = cost(A, list(chart), list(book))
            for way in ways_that_go(needs_by_the_words(A, chart)[1:], dyeings):
                self.assertLessEqual(0, answered[0])
                self.assertLessEqual(answered[0], cost_of_way(dyeings, way))

    def test_no_more_cost_with_a_dyeing_more_at_the_end_of_a_colours(self):
        chance = random.Random(4)
        for chart, book in small_cases(10, 300):
            for colour in (A, B, C):
                dyeings = dyeings_of_colour(colour, book)[:5]
                before = cost(colour, list(chart), list(book_of(dyeings, colour)))
                more = dyeings + [(chance.randint(0, 999), chance.randint(1, 20))]
                behind = cost(colour, list(chart), list(book_of(more, colour)))
                if before[0] >= 0:
                    self.assertLessEqual(0, behind[0])
                    self.assertLessEqual(behind[0], before[0])

    def test_a_dyeing_more_may_cost_less_or_make_a_way_go(self):
        self.costs([3, 3], [(10, 3), (90, 3)], [80])
        self.costs([3, 3], [(10, 3), (90, 3), (12, 3)], [2])
        self.costs([3, 3], [(10, 3), (90, 3), (12, 2)], [80])
        self.costs([3, 3], [(10, 3)], [-5])
        self.costs([3, 3], [(10, 3), (90, 3)], [80])

    def test_other_colours_dyeings_change_no_cost(self):
        for before, behind in itertools.product((b"", b"a 1 99999\nb 2 99999\n"), (b"", b"A 1 99999\n9 2 99999\n")):
            book = before + RUN_BOOK.replace(b"a", b"m") + behind
            self.assertEqual(cost(ord("m"), list(RUN_CHART.replace(b"a", b"m")), list(book)), [1])

    def test_every_colour(self):
        for colour in COLOURS:
            chart = [colour, 10, colour, 10]
            self.assertEqual(cost(colour, chart, list(book_of([(5, 1), (8, 1)], colour))), [3])


class Large(CostCase):
    def test_512_rows_with_a_book_of_256_lines(self):
        own = book_of([(500, 11008), (100, 11008), (900, 11008), (300, 11008), (0, 11008), (700, 11008)])
        book = own + full_book(b" 5 99999\n").split(b"\n", 6)[6]
        self.assertEqual(book.count(b"\n"), 256)
        self.assertEqual(cost(A, list(plain_chart(128, 512)), list(book)), [900])
        self.assertEqual(self.with_few_calls_within(cost, A, list(plain_chart(128, 512)), list(book)), [900])


class TheCall(CostCase):
    def test_what_is_handed_in_stays(self):
        self.leaves_what_is_handed_in(cost, MANY_CALLS)
        self.leaves_what_is_handed_in(cost, [(A, plain_chart(128, 512), full_book(b" 9 11008\n"))])

    def test_a_second_call_answers_like_the_first(self):
        self.answers_again_alike(cost, MANY_CALLS)

    def test_answers_are_new_lists_of_whole_numbers(self):
        self.keeps_no_answer(cost, MANY_CALLS)
        self.answers_whole_numbers(cost, MANY_CALLS)

    def test_the_arguments_names(self):
        self.assertEqual(cost(colour=A, t=list(RUN_CHART), b=list(RUN_BOOK)), [1])


if __name__ == "__main__":
    unittest.main()
