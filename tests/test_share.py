import itertools
import unittest

from words import (
    COLOURS, FAULTS, MANY_CALLS, NO_COLOURS, RUN_BOOK, RUN_CHART, CallCase, book_of, chart_of, chart_of_needs,
    cost_of_way, dyeings_of_colour, full_book, lines_of, needs_by_the_words, plain_chart, rows_given,
    share_by_the_words, small_cases, told_by_the_words, ways_that_go,
)
from wooldyes.shares import share

A = ord("a")
B = ord("b")
C = ord("c")
D = ord("d")


class ShareCase(CallCase):
    def tells(self, row_needs, dyeings, expected):
        """With rows that need so many knots of a, and these dyeings of a, shade and knots."""
        answered = share(A, list(chart_of_needs(row_needs)), list(book_of(dyeings)))
        self.assertEqual(answered, expected, (row_needs, dyeings))

    def as_the_words_say(self, colour, chart, book):
        answered = share(colour, list(chart), list(book))
        self.assertEqual(answered, share_by_the_words(colour, chart, book), (colour, chart, book))


class TheRun(ShareCase):
    def test_the_way_of_a(self):
        self.assertEqual(share(A, list(RUN_CHART), list(RUN_BOOK)), [0, 0, 0, 1, 4, 2, 3, 3, 3])

    def test_of_b_no_dyeing(self):
        self.assertEqual(share(B, list(RUN_CHART), list(RUN_BOOK)), [-5])

    def test_no_row_needs_c(self):
        self.assertEqual(share(C, list(RUN_CHART), list(RUN_BOOK)), [0])


class Refusals(ShareCase):
    def test_nothing_is_refused_of_what_is_right(self):
        self.refuses(share, [], [0, 0, 0, 1, 4, 2, 3, 3, 3])

    def test_each_alone(self):
        self.refuses_each_alone(share, FAULTS)

    def test_each_two_together(self):
        self.refuses_the_first_of_two(share, FAULTS)

    def test_no_colour_where_the_book_and_the_chart_are_the_largest(self):
        for colour in NO_COLOURS:
            answered = share(colour, list(plain_chart(128, 512)), list(full_book(b" 999 99999\n")))
            self.assertEqual(answered, [-1])

    def test_a_chart_of_66048_bytes_is_not_too_long(self):
        self.assertEqual(share(A, list(plain_chart(128, 512)), list(b"a 1 65536\n")), [0, 0, 0, 511, 65536])


class WaysToGetItWrong(ShareCase):
    def test_a_row_shared_by_two_dyeings(self):
        # Six knots in all, but the second row would be of both dyeings.
        self.tells([3, 3], [(5, 4), (5, 2)], [-5])
        self.tells([3, 3], [(5, 4), (5, 2), (900, 3)], [0, 0, 0, 0, 3, 2, 1, 1, 3])

    def test_the_nearest_shade_next(self):
        # From 10 the nearest is 12, then 7, then 20: 20 in all; by 7, 12 and 20 it is 16.
        self.tells(
            [5, 1, 1, 1], [(10, 5), (12, 1), (7, 1), (20, 1)],
            [0, 0, 0, 0, 5, 2, 1, 1, 1, 1, 2, 2, 1, 3, 3, 3, 1],
        )

    def test_the_nearest_shade_leads_nowhere(self):
        self.tells([3, 1, 2], [(10, 3), (11, 2), (90, 1)], [0, 0, 0, 0, 3, 2, 1, 1, 1, 1, 2, 2, 2])

    def test_dyeings_in_their_lines_order(self):
        self.tells([1, 5], [(5, 5), (7, 1)], [0, 1, 0, 0, 1, 0, 1, 1, 5])

    def test_lines_order_costs_more(self):
        self.tells([2, 2, 2], [(30, 2), (10, 2), (20, 2)], [0, 0, 0, 0, 2, 2, 1, 1, 2, 1, 2, 2, 2])

    def test_a_dyeing_left_and_taken_again(self):
        # Dyeing 0 would be enough for the first row and the last, were the one between another's.
        self.tells([2, 5, 2], [(10, 4), (10, 5)], [-5])
        self.tells([2, 5, 2], [(10, 4), (10, 5), (60, 2)], [0, 0, 0, 0, 2, 1, 1, 1, 5, 2, 2, 2, 2])

    def test_one_that_takes_no_row_in_between(self):
        # By 12, which no row is for, the cost is as much, and 0 1 2 would come before 0 2.
        self.tells([3, 3], [(10, 3), (12, 1), (14, 3)], [0, 0, 0, 0, 3, 2, 1, 1, 3])

    def test_one_that_takes_no_row_at_the_end_or_at_the_top(self):
        self.tells([3], [(10, 3), (10, 3)], [0, 0, 0, 0, 3])
        self.tells([3], [(10, 1), (10, 3)], [0, 1, 0, 0, 3])

    def test_fewest_dyeings_before_cost(self):
        # Two dyeings are enough, at a cost of 50 at least; three cost 2.
        self.tells(
            [3, 3, 3], [(0, 6), (100, 3), (50, 3), (51, 3), (52, 3)],
            [0, 2, 0, 0, 3, 3, 1, 1, 3, 4, 2, 2, 3],
        )

    def test_rows_without_the_colour_counted(self):
        self.tells([0, 2, 0, 0, 2, 0], [(5, 4)], [0, 0, 1, 4, 4])
        self.tells([0, 2, 0, 0, 2, 0], [(5, 2), (6, 2)], [0, 0, 1, 1, 2, 1, 4, 4, 2])

    def test_a_row_without_the_colour_is_no_row_taken(self):
        # Dyeing 1 could only take the row that needs nothing.
        self.tells([2, 0, 2], [(10, 2), (12, 1), (14, 2)], [0, 0, 0, 0, 2, 2, 2, 2, 2])

    def test_costs_of_shades_from_the_first(self):
        # Counted from the first shade, 10 ahead of 0 and 20 would be least.
        self.tells([3, 3, 3], [(0, 3), (10, 3), (20, 3)], [0, 0, 0, 0, 3, 1, 1, 1, 3, 2, 2, 2, 3])

    def test_the_shades_of_the_first_and_the_last_alone(self):
        # By 10, 90, 80 and 10 the ends are alike, and yet it costs 160; by 80, 90, 10 and 10 it is 90.
        self.tells(
            [2, 4, 2, 2], [(10, 2), (90, 4), (10, 2), (80, 2)],
            [0, 3, 0, 0, 2, 1, 1, 1, 4, 0, 2, 2, 2, 2, 3, 3, 2],
        )

    def test_knots_of_all_rows_against_all_dyeings_together(self):
        self.tells([3, 3], [(5, 5), (5, 1)], [-5])
        self.tells([3, 3], [(5, 2), (5, 2), (5, 2)], [-5])
        self.tells([4, 4, 4], [(5, 7), (5, 7)], [-5])

    def test_a_seventh_dyeing_taken(self):
        rows = list(chart_of_needs([1] * 7))
        self.assertEqual(share(A, rows, list(lines_of(b"aaaaaaa"))), [-6])
        self.assertEqual(share(A, rows, list(lines_of(b"aaaaaa"))), [-5])
        self.assertEqual(share(A, rows, list(lines_of(b"aaaaaab"))), [-5])


class Ties(ShareCase):
    def test_the_same_cost_with_fewer_dyeings(self):
        # 0 1 2 and 2 1 0 cost 4 too.
        self.tells([3, 2, 2], [(10, 3), (12, 2), (14, 4)], [0, 0, 0, 0, 3, 2, 1, 2, 4])

    def test_one_dyeing_before_two_of_the_same_shade(self):
        self.tells([2, 2], [(10, 2), (10, 2), (10, 4)], [0, 2, 0, 1, 4])

    def test_the_same_cost_and_as_many_told_by_their_numbers(self):
        self.tells([3, 3], [(10, 3), (14, 3), (18, 3)], [0, 0, 0, 0, 3, 1, 1, 1, 3])
        self.tells([3, 3], [(90, 3), (14, 3), (10, 3)], [0, 1, 0, 0, 3, 2, 1, 1, 3])

    def test_one_dyeing_of_several_that_are_enough(self):
        self.tells([3, 3], [(90, 5), (50, 6), (10, 6), (10, 99999)], [0, 1, 0, 1, 6])

    def test_the_first_number_that_differs_tells(self):
        # 1 0 goes too, and its numbers added up are less.
        self.tells([3, 5], [(7, 5), (7, 3), (7, 5)], [0, 0, 0, 0, 3, 2, 1, 1, 5])

    def test_a_later_number_tells_where_the_first_are_alike(self):
        self.tells(
            [2, 2, 2], [(7, 2), (7, 1), (7, 2), (7, 2), (7, 2)],
            [0, 0, 0, 0, 2, 2, 1, 1, 2, 3, 2, 2, 2],
        )

    def test_numbers_are_not_told_by_shades_or_knots(self):
        self.tells([3], [(900, 9), (1, 3)], [0, 0, 0, 0, 3])
        self.tells([3], [(900, 3), (1, 9)], [0, 0, 0, 0, 3])

    def test_dyeings_of_one_shade(self):
        self.tells([3, 3], [(5, 3), (5, 3), (5, 3)], [0, 0, 0, 0, 3, 1, 1, 1, 3])
        self.tells([3, 3, 3], [(5, 3), (5, 3), (5, 3)], [0, 0, 0, 0, 3, 1, 1, 1, 3, 2, 2, 2, 3])

    def test_a_way_and_the_same_way_back(self):
        self.tells([2, 2, 2], [(20, 2), (10, 2), (0, 2)], [0, 0, 0, 0, 2, 1, 1, 1, 2, 2, 2, 2, 2])


class SixDyeings(ShareCase):
    def test_all_six_in_an_order_that_is_not_the_books(self):
        needed = [3, 1, 6, 2, 5, 4]
        dyeings = [(500, 1), (0, 2), (999, 3), (10, 4), (700, 5), (3, 6)]
        self.assertEqual(ways_that_go(needed, dyeings), [(2, 0, 5, 1, 4, 3)])
        expected = [0]
        for row, number in enumerate((2, 0, 5, 1, 4, 3)):
            expected += [number, row, row, needed[row]]
        self.tells(needed, dyeings, expected)

    def test_all_six_by_their_shades(self):
        expected = [0]
        for row, number in enumerate((0, 2, 4, 5, 3, 1)):
            expected += [number, row, row, 1]
        self.tells([1] * 6, [(10, 1), (60, 1), (20, 1), (50, 1), (30, 1), (40, 1)], expected)

    def test_every_order_of_six(self):
        for order in itertools.permutations(range(6)):
            # Each dyeing is just enough for one row, so that the rows tell the order.
            needed = [number + 4 for number in order]
            expected = [0]
            for row, number in enumerate(order):
                expected += [number, row, row, number + 4]
            self.tells(needed, [(number * 7 % 5, number + 4) for number in range(6)], expected)

    def test_a_row_more_than_six_dyeings_take(self):
        self.tells([1] * 7, [(5, 1)] * 6, [-5])
        self.tells(
            [1] * 7, [(5, 1)] * 5 + [(9, 2)],
            [0, 0, 0, 0, 1, 1, 1, 1, 1, 2, 2, 2, 1, 3, 3, 3, 1, 4, 4, 4, 1, 5, 5, 6, 2],
        )


class OtherColours(ShareCase):
    BEFORE = b"a 1 99999\na 2 99999\nb 3 99999\n"
    OWN = b"m 10 4\nm 14 3\nm 11 3\n"
    BEHIND = b"n 4 99999\nA 5 99999\n0 6 99999\n"

    def test_the_numbers_are_the_colours_own(self):
        chart = RUN_CHART.replace(b"a", b"m")
        for before, behind in itertools.product((b"", self.BEFORE), (b"", self.BEHIND)):
            answered = share(ord("m"), list(chart), list(before + self.OWN + behind))
            self.assertEqual(answered, [0, 0, 0, 1, 4, 2, 3, 3, 3])

    def test_dyeings_of_other_colours_are_not_taken(self):
        for colour in COLOURS:
            others = lines_of(other for other in COLOURS if other != colour).replace(b" 1 1\n", b" 1 99999\n")
            self.assertEqual(share(colour, [colour, 10], list(others)), [-5])

    def test_every_colour_among_all(self):
        book = b"".join(book_of([(5, 1), (9, 3)], colour) for colour in COLOURS)
        for colour in COLOURS:
            chart = chart_of([COLOURS, bytes([colour]) * 62])
            self.assertEqual(share(colour, list(chart), list(book)), [-5])
            chart = chart_of([COLOURS, COLOURS[::-1], COLOURS])
            self.assertEqual(share(colour, list(chart), list(book)), [0, 1, 0, 2, 3])

    def test_a_colour_and_its_large_letter(self):
        book = list(b"a 1 1\nA 2 9\n")
        self.assertEqual(share(ord("a"), list(b"aA\nAA\n"), book), [0, 0, 0, 0, 1])
        self.assertEqual(share(ord("A"), list(b"aA\nAA\n"), book), [0, 0, 0, 1, 3])


class Enough(ShareCase):
    def test_just_enough_and_one_knot_less(self):
        self.tells([2, 3, 4], [(5, 9)], [0, 0, 0, 2, 9])
        self.tells([2, 3, 4], [(5, 8)], [-5])
        self.tells([2, 3, 4], [(5, 5), (6, 4)], [0, 0, 0, 1, 5, 1, 2, 2, 4])
        self.tells([2, 3, 4], [(5, 4), (6, 4)], [-5])
        self.tells([2, 3, 4], [(5, 5), (6, 3)], [-5])

    def test_one_knot_more(self):
        self.tells([2, 3, 4], [(5, 10)], [0, 0, 0, 2, 9])
        self.tells([2, 3, 4], [(5, 6), (6, 5)], [0, 0, 0, 1, 5, 1, 2, 2, 4])

    def test_a_dyeing_takes_as_many_rows_as_it_is_enough_for(self):
        # Dyeing 0 must take both rows ahead, though dyeing 1 is enough for the second, too.
        self.tells([1, 1, 3], [(5, 2), (6, 4)], [0, 0, 0, 1, 2, 1, 2, 2, 3])

    def test_a_dyeing_takes_no_later_row_behind_one_it_cannot_take(self):
        self.tells([1, 3, 1], [(5, 2), (6, 3)], [-5])
        self.tells([1, 3, 1], [(5, 2), (6, 4)], [0, 0, 0, 0, 1, 1, 1, 2, 4])

    def test_a_row_that_no_dyeing_is_enough_for(self):
        self.tells([1, 7, 1], [(5, 6), (5, 6), (5, 6)], [-5])
        self.tells([7], [(5, 6)], [-5])
        self.tells([1, 1, 7], [(5, 6), (5, 6), (5, 6), (5, 6), (5, 6), (5, 6)], [-5])

    def test_the_largest_dyeing(self):
        self.tells([1], [(0, 99999)], [0, 0, 0, 0, 1])
        self.tells([1], [(999, 99999)], [0, 0, 0, 0, 1])


class NoRowNeedsIt(ShareCase):
    def test_without_dyeings_of_it(self):
        self.assertEqual(share(C, list(RUN_CHART), []), [0])
        self.assertEqual(share(C, list(RUN_CHART), list(RUN_BOOK)), [0])

    def test_with_dyeings_of_it(self):
        self.assertEqual(share(C, list(RUN_CHART), list(b"c 1 1\n")), [0])
        self.assertEqual(share(C, list(RUN_CHART), list(b"a 1 1\nc 10 4\nc 14 3\nc 11 3\nd 1 1\n")), [0])
        self.assertEqual(share(C, list(RUN_CHART), list(lines_of(b"cccccc"))), [0])


class ByTheWords(ShareCase):
    def test_small_charts_and_books(self):
        for chart, book in small_cases(6, 400):
            for colour in (A, B, C, D):
                self.as_the_words_say(colour, chart, book)

    def test_every_three_rows_with_every_two_or_three_dyeings_of_a_few(self):
        few = list(itertools.product((0, 1, 3), (1, 2, 4)))
        for many in (1, 2):
            for row_needs in itertools.product(range(4), repeat=3):
                for dyeings in itertools.product(few, repeat=many):
                    self.as_the_words_say(A, chart_of_needs(row_needs), book_of(dyeings))
        for row_needs in itertools.product((1, 2), repeat=3):
            for dyeings in itertools.product(few, repeat=3):
                self.as_the_words_say(A, chart_of_needs(row_needs), book_of(dyeings))

    def test_a_way_goes_and_none_costs_less(self):
        for chart, book in small_cases(23, 200):
            row_needs = needs_by_the_words(A, chart)[1:]
            dyeings = dyeings_of_colour(A, book)
            answered = share(A, list(chart), list(book))
            going = ways_that_go(row_needs, dyeings)
            if not going:
                self.assertEqual(answered, [-5])
                continue
            parts = [answered[k:k + 4] for k in range(1, len(answered), 4)]
            way = tuple(part[0] for part in parts)
            self.assertIn(way, going)
            least = min(cost_of_way(dyeings, other) for other in going)
            self.assertEqual(cost_of_way(dyeings, way), least)
            self.each_row_is_of_one_dyeing(row_needs, dyeings, parts)

    def each_row_is_of_one_dyeing(self, row_needs, dyeings, parts):
        of_rows = [[] for need in row_needs]
        for number, first, last, knots in parts:
            self.assertEqual(knots, sum(row_needs[first:last + 1]))
            self.assertLessEqual(knots, dyeings[number][1])
            self.assertGreater(row_needs[first], 0)
            self.assertGreater(row_needs[last], 0)
            for row in range(first, last + 1):
                of_rows[row].append(number)
        for row, need in enumerate(row_needs):
            self.assertLessEqual(len(of_rows[row]), 1)
            if need > 0:
                self.assertEqual(len(of_rows[row]), 1)


class Large(ShareCase):
    def test_512_rows_with_a_book_of_256_lines(self):
        chart = plain_chart(128, 512)
        self.assertEqual(share(A, list(chart), list(full_book(b" 999 99999\n"))), [0, 0, 0, 511, 65536])
        self.assertEqual(share(B, list(chart), list(full_book(b" 999 99999\n"))), [0])
        self.assertEqual(share(A, list(chart), list(full_book(b" 999 127\n"))), [-5])

    def test_512_rows_with_six_dyeings_that_are_all_needed(self):
        own = book_of([(500, 11008), (100, 11008), (900, 11008), (300, 11008), (0, 11008), (700, 11008)])
        rest = full_book(b" 5 99999\n").split(b"\n", 6)[6]
        book = own + rest
        expected = [0]
        for place, number in enumerate((2, 5, 0, 3, 1, 4)):
            first = place * 86
            last = min(first + 85, 511)
            expected += [number, first, last, 128 * (last - first + 1)]
        self.assertEqual(book.count(b"\n"), 256)
        self.assertEqual(share(A, list(plain_chart(128, 512)), list(book)), expected)

    def test_512_rows_of_many_needs(self):
        row_needs = [k * 7 % 128 for k in range(512)]
        chart = chart_of_needs(row_needs, 128)
        dyeings = [(50, 6000), (10, 7100), (90, 5900), (20, 6500), (70, 6400), (40, 990)]
        self.as_the_words_say(A, chart, book_of(dyeings))
        self.assertEqual(share(A, list(chart), list(book_of(dyeings)))[0], 0)

    def test_large_charts_need_no_deep_calls(self):
        chart = list(plain_chart(128, 512))
        book = list(book_of([(5, 11008)] * 6))
        self.assertEqual(len(self.with_few_calls_within(share, A, chart, book)), 25)
        chart = list(plain_chart(1, 512))
        book = list(full_book(b" 1 1\n"))
        self.assertEqual(self.with_few_calls_within(share, A, chart, book), [-5])


class TheCall(ShareCase):
    def test_what_is_handed_in_stays(self):
        self.leaves_what_is_handed_in(share, MANY_CALLS)
        self.leaves_what_is_handed_in(share, [(A, plain_chart(128, 512), full_book(b" 9 11008\n"))])

    def test_a_second_call_answers_like_the_first(self):
        self.answers_again_alike(share, MANY_CALLS)

    def test_answers_are_new_lists_of_whole_numbers(self):
        self.keeps_no_answer(share, MANY_CALLS)
        self.answers_whole_numbers(share, MANY_CALLS)

    def test_the_arguments_names(self):
        self.assertEqual(share(colour=A, t=list(RUN_CHART), b=list(RUN_BOOK)), [0, 0, 0, 1, 4, 2, 3, 3, 3])


class TheWords(unittest.TestCase):
    """The tests' own measure is held to the document's run."""

    def test_the_run(self):
        dyeings = dyeings_of_colour(A, RUN_BOOK)
        self.assertEqual(dyeings, [(10, 4), (14, 3), (11, 3)])
        self.assertEqual(told_by_the_words([2, 2, 0, 3], dyeings), (0, 2))
        self.assertEqual(rows_given([2, 2, 0, 3], dyeings, (0, 2)), [[0, 1], [3]])
        self.assertEqual(cost_of_way(dyeings, (0, 2)), 1)
        self.assertEqual(share_by_the_words(A, RUN_CHART, RUN_BOOK), [0, 0, 0, 1, 4, 2, 3, 3, 3])
        self.assertEqual(share_by_the_words(B, RUN_CHART, RUN_BOOK), [-5])
        self.assertEqual(share_by_the_words(C, RUN_CHART, RUN_BOOK), [0])

    def test_small_cases_are_of_every_sort(self):
        sorts = {}
        for chart, book in small_cases(6, 400):
            answer = share_by_the_words(A, chart, book)
            sorts[len(answer), answer[0]] = True
        for many in range(1, 6):
            self.assertIn((1 + 4 * many, 0), sorts)
        self.assertIn((1, -5), sorts)


if __name__ == "__main__":
    unittest.main()
