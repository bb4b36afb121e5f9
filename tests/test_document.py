"""The document from its first sentence to its last, and the six calls together."""

import inspect
import itertools
import unittest

from words import (
    COLOURS, FAULTS, MANY_CALLS, RIGHT, RUN_BOOK, RUN_CHART, CallCase, Guarded, all_costs_by_the_words,
    cost_by_the_words, fresh, full_book, judge_by_the_words, left_by_the_words, lines_of, needs_by_the_words,
    plain_chart, share_by_the_words, small_cases, text,
)
from wooldyes.shares import all_costs, cost, judge, left, needs, share

CALLS = {
    judge: ("b",),
    needs: ("colour", "t"),
    share: ("colour", "t", "b"),
    cost: ("colour", "t", "b"),
    all_costs: ("t", "b"),
    left: ("colour", "t", "b"),
}


def asked(call, colour, chart, book):
    """What the call answers, each call being handed those of the arguments that it takes."""
    handed = {"colour": colour, "t": chart, "b": book}
    return call(*[handed[name] for name in CALLS[call]])


class Words(unittest.TestCase):
    def test_a_colour(self):
        for number, colour in enumerate(COLOURS):
            self.assertEqual(needs(colour, [colour, 10]), [0, 1])
            self.assertEqual(all_costs([colour, 10], []), [-5, number])
        self.assertEqual(len(COLOURS), 62)

    def test_a_chart(self):
        for width, height in ((1, 1), (512, 1), (1, 512), (512, 128), (128, 512), (256, 256)):
            self.assertEqual(needs(97, list(plain_chart(width, height))), [0] + [width] * height)
        for width, height in ((513, 1), (1, 513), (257, 256)):
            self.assertEqual(needs(97, list(plain_chart(width, height))), [-6])
        self.assertEqual(needs(97, []), [-6])

    def test_rows_are_counted_from_the_top_from_0(self):
        self.assertEqual(share(97, text("bb/aa/bb/"), text("a 1 2/")), [0, 0, 1, 1, 2])

    def test_a_charts_text(self):
        self.assertEqual(needs(97, text("ab/ba/")), [0, 1, 1])
        self.assertEqual(needs(97, text("ab/ba")), [-6])
        self.assertEqual(needs(97, text("ab/b/")), [-6])

    def test_need(self):
        self.assertEqual(needs(97, text("abab/bbbb/aaaa/")), [0, 2, 0, 4])

    def test_a_dyeing_and_its_text(self):
        for right in ("a 0 1/", "a 999 1/", "a 0 99999/"):
            self.assertEqual(judge(text(right)), [1])
        for wrong, place in (("a 1000 1/", 5), ("a 0 0/", 4), ("a 0 100000/", 9), ("a 00 1/", 3), ("a  1 1/", 2)):
            self.assertEqual(judge(text(wrong)), [-6, place])

    def test_a_book(self):
        self.assertEqual(judge([]), [0])
        self.assertEqual(judge(list(full_book(b" 1 1\n"))), [256])
        self.assertEqual(judge(list(full_book(b" 1 1\n") + b"9 1 1\n")), [-6, 1536])
        self.assertEqual(judge(text("b 1 1/a 1 1/")), [-6, 6])
        self.assertEqual(judge(list(lines_of(b"aaaaaaa"))), [-6, 36])

    def test_dyeings_are_numbered_from_0_as_their_lines_come(self):
        self.assertEqual(share(98, text("b/"), text("a 1 9/b 1 1/b 1 9/")), [0, 0, 0, 0, 1])
        self.assertEqual(share(98, text("bb/"), text("a 1 9/b 1 1/b 1 9/")), [0, 1, 0, 0, 2])

    def test_a_way(self):
        self.assertEqual(share(97, text("ab/aa/"), text("a 1 1/a 2 2/")), [0, 0, 0, 0, 1, 1, 1, 1, 2])
        self.assertEqual(share(97, text("aa/ab/"), text("a 1 1/a 2 2/")), [0, 1, 0, 0, 2, 0, 1, 1, 1])

    def test_it_goes(self):
        self.assertEqual(share(97, text("aa/"), text("a 1 1/a 1 1/")), [-5])
        self.assertEqual(share(97, text("aa/aa/"), text("a 1 2/")), [-5])
        self.assertEqual(share(97, text("bb/"), text("a 1 2/")), [0])

    def test_its_cost(self):
        self.assertEqual(cost(97, text("a/a/a/"), text("a 5 1/a 9 1/a 2 1/")), [7])

    def test_which_is_told(self):
        self.assertEqual(share(97, text("a/a/"), text("a 5 1/a 9 1/a 8 1/")), [0, 1, 0, 0, 1, 2, 1, 1, 1])
        self.assertEqual(share(97, text("a/a/"), text("a 5 1/a 5 1/a 5 2/")), [0, 2, 0, 1, 2])
        self.assertEqual(share(97, text("a/a/"), text("a 5 1/a 5 1/a 5 1/")), [0, 0, 0, 0, 1, 1, 1, 1, 1])


class TheRun(unittest.TestCase):
    def test_it(self):
        chart = text("aab/aba/bbb/aaa/")
        book = text("a 10 4/a 14 3/a 11 3/")
        a, b, c = b"abc"
        self.assertEqual(judge(book), [3])
        self.assertEqual(needs(a, chart), [0, 2, 2, 0, 3])
        self.assertEqual(share(a, chart, book), [0, 0, 0, 1, 4, 2, 3, 3, 3])
        self.assertEqual(cost(a, chart, book), [1])
        self.assertEqual(left(a, chart, book), [0, 0, 3, 0])
        self.assertEqual(cost(b, chart, book), [-5])
        self.assertEqual(all_costs(chart, book), [-5, 1])
        self.assertEqual(needs(c, chart), [0, 0, 0, 0, 0])
        self.assertEqual(share(c, chart, book), [0])
        self.assertEqual(cost(c, chart, book), [0])
        for wrong, place in (("b 1 1/a 1 1/", 6), ("a 1000 1/", 5), ("a 01 1/", 3), ("a 1 0/", 4)):
            self.assertEqual(judge(text(wrong)), [-6, place])


class Promises(CallCase):
    def test_refused_in_this_order_by_every_call_that_takes_them(self):
        names = ("colour", "t", "b")
        for call, taken in CALLS.items():
            for refused, place, many in FAULTS:
                if names[place] in taken and not (call == judge and refused == -5):
                    for wrong in many:
                        arguments = list(RIGHT)
                        arguments[place] = wrong
                        self.assertEqual(asked(call, *fresh(arguments))[0], refused)

    def test_a_refusal_is_alone_but_where_more_is_told_with_it(self):
        self.assertEqual([asked(call, 97, text(""), text("a 01 1/")) for call in CALLS], [[-6, 3]] + 5 * [[-6]])
        self.assertEqual([asked(call, 98, text("b/"), []) for call in (share, cost, left)], 3 * [[-5]])
        self.assertEqual(all_costs(text("b/"), []), [-5, 1])
        self.assertEqual([asked(call, 97, [97] * 66049, [97] * 4097) for call in CALLS], 6 * [[-2]])
        self.assertEqual([asked(call, 256, text("b/"), []) for call in (needs, share, cost, left)], 4 * [[-1]])

    def test_what_a_call_is_not_handed_does_not_refuse_it(self):
        self.assertEqual(judge(list(RUN_BOOK)), [3])
        self.assertEqual(needs(98, list(RUN_CHART)), [0, 1, 1, 3, 0])

    def test_all_calls_by_the_words(self):
        for chart, book in small_cases(18, 150):
            self.assertEqual(judge(list(book)), judge_by_the_words(book))
            self.assertEqual(all_costs(list(chart), list(book)), all_costs_by_the_words(chart, book))
            for colour in b"abcd":
                self.assertEqual(needs(colour, list(chart)), needs_by_the_words(colour, chart))
                self.assertEqual(share(colour, list(chart), list(book)), share_by_the_words(colour, chart, book))
                self.assertEqual(cost(colour, list(chart), list(book)), cost_by_the_words(colour, chart, book))
                self.assertEqual(left(colour, list(chart), list(book)), left_by_the_words(colour, chart, book))

    def test_a_book_is_one_text(self):
        for other in ("a 010 4/", "a 10 04/", "a 10 4", "a  10 4/", "a 10 4/ ", "a 10 4//", "A 10 4/a 10 4/"):
            answered = [asked(call, 97, text("aa/"), text(other))[0] for call in (judge, share, cost, all_costs, left)]
            self.assertEqual(answered, 5 * [-6], other)


class TheSixCalls(CallCase):
    ANSWERS = {
        judge: [3],
        needs: [0, 2, 2, 0, 3],
        share: [0, 0, 0, 1, 4, 2, 3, 3, 3],
        cost: [1],
        all_costs: [-5, 1],
        left: [0, 0, 3, 0],
    }

    def test_they_answer_by_themselves_in_any_order(self):
        chart = Guarded(RUN_CHART)
        book = Guarded(RUN_BOOK)
        for order in itertools.permutations(CALLS):
            for call in order:
                self.assertEqual(asked(call, 97, chart, book), self.ANSWERS[call])
        self.assertEqual((chart, book), (list(RUN_CHART), list(RUN_BOOK)))

    def test_each_between_two_others_with_other_arguments(self):
        first = {(call, n): asked(call, *fresh(handed)) for call in CALLS for n, handed in enumerate(MANY_CALLS)}
        for one, other in itertools.product(first, repeat=2):
            asked(one[0], *fresh(MANY_CALLS[one[1]]))
            self.assertEqual(asked(other[0], *fresh(MANY_CALLS[other[1]])), first[other])

    def test_what_is_handed_in_to_any_of_them_stays(self):
        for call in CALLS:
            self.leaves_what_is_handed_in(lambda colour, t, b, call=call: asked(call, colour, t, b), MANY_CALLS)

    def test_one_list_for_both_texts(self):
        both = Guarded(b"a\n")
        self.assertEqual([asked(call, 97, both, both) for call in CALLS], [[-6, 1], [0, 1]] + 4 * [[-6]])
        self.assertEqual(both, [97, 10])

    def test_they_answer_whole_numbers(self):
        for call in CALLS:
            self.answers_whole_numbers(lambda colour, t, b, call=call: asked(call, colour, t, b), MANY_CALLS)

    def test_their_names_and_arguments(self):
        for call, names in CALLS.items():
            self.assertEqual(tuple(inspect.signature(call).parameters), names)
            self.assertEqual(call.__module__, "wooldyes.shares")
        self.assertEqual([call.__name__ for call in CALLS], ["judge", "needs", "share", "cost", "all_costs", "left"])


if __name__ == "__main__":
    unittest.main()
