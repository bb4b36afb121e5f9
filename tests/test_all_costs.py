import itertools
import random
import time
import unittest

from words import (
    COLOURS, FAULTS, MANY_CALLS, RUN_BOOK, RUN_CHART, CallCase, all_costs_by_the_words, book_of, chart_of,
    chart_of_needs, cost_of_way, full_book, lines_of, plain_chart, small_cases, text, told_by_the_words,
)
from wooldyes.shares import all_costs, cost

# Arguments of all_costs have no colour.
FAULTS_OF_TEXTS = [fault for fault in FAULTS if fault[1] > 0]
CALLS = [arguments[1:] for arguments in MANY_CALLS if arguments[0] == 97]
ONE_OF_EACH = lines_of(COLOURS)


def of_texts(colour, t, b):
    return all_costs(t, b)


class AllCostsCase(CallCase):
    def answers(self, chart, book, expected):
        self.assertEqual(all_costs(text(chart), text(book)), expected, (chart, book))

    def answers_raw(self, chart, book, expected):
        self.assertEqual(all_costs(list(chart), list(book)), expected, (chart[:80], book[:80]))


class TheRun(AllCostsCase):
    def test_of_b_no_dyeing(self):
        self.answers_raw(RUN_CHART, RUN_BOOK, [-5, 1])

    def test_a_book_that_is_enough_for_both_colours(self):
        self.answers_raw(RUN_CHART, RUN_BOOK + b"b 5 5\n", [1])
        self.answers_raw(RUN_CHART, RUN_BOOK + b"b 5 2\nb 25 3\n", [21])

    def test_a_book_that_is_not_enough_for_b(self):
        self.answers_raw(RUN_CHART, RUN_BOOK + b"b 5 4\n", [-5, 1])
        self.answers_raw(RUN_CHART, RUN_BOOK + b"b 5 1\nb 5 3\n", [-5, 1])


class Refusals(AllCostsCase):
    def told(self, refused):
        return [-5, 0] if refused == -5 else [refused]

    def test_nothing_is_refused_of_what_is_right(self):
        self.refuses(of_texts, [], [1])

    def test_each_alone(self):
        self.refuses_each_alone(of_texts, FAULTS_OF_TEXTS, self.told)

    def test_each_two_together(self):
        self.refuses_the_first_of_two(of_texts, FAULTS_OF_TEXTS, self.told)


class AllColours(AllCostsCase):
    def test_dyeings_of_all_of_them(self):
        self.answers_raw(chart_of([COLOURS]), ONE_OF_EACH, [0])

    def test_those_of_each_colour_left_out(self):
        for number, colour in enumerate(COLOURS):
            book = lines_of(other for other in COLOURS if other != colour)
            self.answers_raw(chart_of([COLOURS]), book, [-5, number])
            self.answers_raw(chart_of([COLOURS[::-1]]), book, [-5, number])

    def test_one_of_each_colour_that_is_not_enough(self):
        chart = chart_of([COLOURS, COLOURS])
        for number in range(62):
            lines = ONE_OF_EACH.replace(b" 1 1\n", b" 1 2\n").splitlines(True)
            lines[number] = lines[number].replace(b" 1 2\n", b" 1 1\n")
            self.answers_raw(chart, b"".join(lines), [-5, number])

    def test_each_colour_costs_in_turn(self):
        chart = chart_of([COLOURS, COLOURS])
        for turn in COLOURS:
            book = b""
            for colour in COLOURS:
                book += book_of([(7, 1), (7 + COLOURS.index(turn), 1)] if colour == turn else [(7, 2)], colour)
            self.answers_raw(chart, book, [COLOURS.index(turn)])

    def test_all_colours_cost(self):
        book = b"".join(book_of([(3, 1), (number + 3, 1)], colour) for number, colour in enumerate(COLOURS))
        self.answers_raw(chart_of([COLOURS, COLOURS]), book, [sum(range(62))])

    def test_the_largest_answer_of_62_colours(self):
        book = b"".join(book_of([(0, 1), (999, 1)], colour) for colour in COLOURS)
        self.answers_raw(chart_of([COLOURS, COLOURS]), book, [62 * 999])

    def test_each_colour_alone_without_a_dyeing(self):
        for number, colour in enumerate(COLOURS):
            self.answers_raw(bytes([colour]) + b"\n", b"", [-5, number])
            self.answers_raw(bytes([colour]) + b"\n", bytes([colour]) + b" 5 1\n", [0])


class NoWayGoes(AllCostsCase):
    def test_the_first_by_the_numbers_and_not_in_the_chart(self):
        self.answers("ba/", "", [-5, 0])
        self.answers("b/a/", "", [-5, 0])
        self.answers("0Aa/", "", [-5, 0])
        self.answers("0A/", "", [-5, 26])
        self.answers("9/0/Z/", "", [-5, 51])
        self.answers("9/0/", "", [-5, 52])

    def test_every_two_colours(self):
        for one, other in itertools.permutations(range(62), 2):
            chart = bytes([COLOURS[one], COLOURS[other], 10])
            self.answers_raw(chart, b"", [-5, min(one, other)])

    def test_a_colour_that_goes_ahead_of_one_that_does_not(self):
        self.answers("ab/ba/", "a 5 2/", [-5, 1])
        self.answers("ab/ba/", "b 5 2/", [-5, 0])
        self.answers("aB/Ba/", "a 5 1/a 900 1/", [-5, 27])

    def test_costs_ahead_are_not_told(self):
        self.answers("ab/ab/", "a 0 1/a 500 1/b 5 1/", [-5, 1])


class OtherDyeings(AllCostsCase):
    def test_of_colours_that_the_chart_has_not(self):
        self.answers_raw(RUN_CHART, RUN_BOOK + b"b 5 5\nc 1 1\nc 999 1\nA 1 1\n9 3 3\n9 700 1\n", [1])
        self.answers("b/", "a 1 1/a 999 1/b 5 1/c 1 1/c 900 1/", [0])

    def test_a_full_book_and_one_knot(self):
        self.answers_raw(b"a\n", full_book(b" 999 99999\n"), [0])
        self.answers_raw(b"9\n", full_book(b" 999 99999\n"), [-5, 61])


class OverManyChartsAndBooks(AllCostsCase):
    def single_costs(self, chart, book):
        return [cost(colour, list(chart), list(book))[0] for colour in COLOURS]

    def test_the_sum_of_the_single_costs(self):
        summed = 0
        for chart, book in small_cases(11, 300):
            costs = self.single_costs(chart, book)
            if -5 in costs:
                self.answers_raw(chart, book, [-5, costs.index(-5)])
            else:
                self.answers_raw(chart, book, [sum(costs)])
                summed += sum(costs) > 0
        self.assertGreater(summed, 20)

    def test_by_a_search_of_all_ways(self):
        for chart, book in small_cases(12, 200):
            self.answers_raw(chart, book, all_costs_by_the_words(chart, book))

    def test_charts_of_many_colours(self):
        chance = random.Random(13)
        for k in range(40):
            chart = chart_of([bytes(chance.choice(COLOURS) for x in range(30)) for y in range(6)])
            book = b""
            for colour in COLOURS:
                dyeings = [(chance.randint(0, 999), chance.randint(2, 6)) for n in range(4)]
                book += book_of(dyeings, colour)
            costs = self.single_costs(chart, book)
            self.answers_raw(chart, book, [-5, costs.index(-5)] if -5 in costs else [sum(costs)])

    def test_no_more_cost_with_a_dyeing_more_at_the_end_of_a_colours(self):
        chance = random.Random(14)
        for chart, book in small_cases(15, 200):
            before = all_costs(list(chart), list(book))
            lines = book.splitlines(True)
            of_a = [line for line in lines if line[:1] == b"a"]
            if before[0] < 0 or len(of_a) == 6:
                continue
            lines.insert(len(of_a), book_of([(chance.randint(0, 999), chance.randint(1, 20))]))
            behind = all_costs(list(chart), list(b"".join(lines)))
            self.assertLessEqual(0, behind[0])
            self.assertLessEqual(behind[0], before[0])


class Large(AllCostsCase):
    # 42 colours with six dyeings each and one with four, all needed in every row.
    ROW = COLOURS[:43] * 2 + COLOURS[:42]
    CHART = chart_of([ROW] * 512)

    def book(self, dyeings):
        lines = [book_of(dyeings, colour) for colour in COLOURS[:42]] + [book_of([(3, 99999)] * 4, COLOURS[42])]
        return b"".join(lines)

    def test_the_largest_chart_with_a_book_of_256_lines(self):
        # Each dyeing is enough for 86 of the rows, so that all six are needed in whatever order.
        dyeings = [(500, 258), (100, 258), (900, 258), (300, 258), (0, 258), (700, 258)]
        book = self.book(dyeings)
        self.assertEqual((len(self.CHART), book.count(b"\n")), (66048, 256))
        start = time.perf_counter()
        self.assertEqual(all_costs(list(self.CHART), list(book)), [42 * 900])
        self.assertLess(time.perf_counter() - start, 5)

    def test_other_dyeings_for_the_largest_chart(self):
        dyeings = [(50, 301), (10, 262), (90, 259), (20, 250), (70, 244), (40, 999)]
        way = told_by_the_words([3] * 512, dyeings)
        start = time.perf_counter()
        self.assertEqual(all_costs(list(self.CHART), list(self.book(dyeings))), [42 * cost_of_way(dyeings, way)])
        self.assertLess(time.perf_counter() - start, 5)

    def test_no_way_goes_for_the_last(self):
        book = self.book([(5, 258)] * 6).replace(b" 3 99999\n", b" 3 255\n")
        start = time.perf_counter()
        self.answers_raw(self.CHART, book, [-5, 42])
        self.assertLess(time.perf_counter() - start, 5)

    def test_large_charts_need_no_deep_calls(self):
        book = list(self.book([(5, 258)] * 6))
        self.assertEqual(self.with_few_calls_within(all_costs, list(self.CHART), book), [0])
        answered = self.with_few_calls_within(all_costs, list(plain_chart(1, 512)), list(full_book(b" 1 1\n")))
        self.assertEqual(answered, [-5, 0])


class TheCall(AllCostsCase):
    def test_what_is_handed_in_stays(self):
        self.leaves_what_is_handed_in(all_costs, CALLS)
        self.leaves_what_is_handed_in(all_costs, [(Large.CHART, full_book(b" 9 258\n"))])

    def test_a_second_call_answers_like_the_first(self):
        self.answers_again_alike(all_costs, CALLS)

    def test_answers_are_new_lists_of_whole_numbers(self):
        self.keeps_no_answer(all_costs, CALLS)
        self.answers_whole_numbers(all_costs, CALLS)

    def test_the_arguments_names(self):
        self.assertEqual(all_costs(t=list(RUN_CHART), b=list(RUN_BOOK)), [-5, 1])

    def test_the_tests_own_measure_is_held_to_the_run(self):
        self.assertEqual(all_costs_by_the_words(RUN_CHART, RUN_BOOK), [-5, 1])
        self.assertEqual(all_costs_by_the_words(chart_of_needs([3, 3], 3), book_of([(4, 3), (9, 3)])), [5])


if __name__ == "__main__":
    unittest.main()
