"""Texts for the tests, the document's words taken as they stand, and what every call is held to."""

import itertools
import random
import re
import sys
import unittest

COLOURS = b"abcdefghijklmnopqrstuvwxyzABCDEFGHIJKLMNOPQRSTUVWXYZ0123456789"
ROWS = re.compile(rb"(?:[a-zA-Z0-9]+\n)+")
LINE = re.compile(rb"([a-zA-Z0-9]) (0|[1-9][0-9]{0,2}) [1-9][0-9]{0,4}\n")
# One of these makes a whole line of any beginning of a line.
REST_OF_A_LINE = (b"", b" 1 1\n", b"1 1\n", b" 1\n", b"1\n", b"\n")


def text(written):
    """The list of bytes of a text in which / stands for the byte 10."""
    return list(written.replace("/", "\n").encode("ascii"))


def lines_of(colours):
    """A book's text with the shortest line for each colour."""
    return b"".join(bytes([colour]) + b" 1 1\n" for colour in colours)


def full_book(line_rest):
    """256 lines: six of each colour, and four of the last."""
    colours = [COLOURS[k // 6] for k in range(256)]
    return b"".join(bytes([colour]) + line_rest for colour in colours)


def dyeings_of_book(raw):
    """How many dyeings, or None if the bytes are no book's text."""
    colours = []
    place = 0
    while place < len(raw):
        found = LINE.match(raw, place)
        if found is None:
            return None
        colours.append(COLOURS.index(found.group(1)))
        place = found.end()
    if len(colours) > 256 or colours != sorted(colours):
        return None
    if any(colours.count(colour) > 6 for colour in colours):
        return None
    return len(colours)


def begins_a_book(raw):
    return any(dyeings_of_book(raw + rest) is not None for rest in REST_OF_A_LINE)


def judge_by_the_words(raw):
    """What judge has to answer, found from the definitions and by trying every beginning, longest first."""
    if len(raw) > 4096:
        return [-2]
    dyeings = dyeings_of_book(raw)
    if dyeings is not None:
        return [dyeings]
    place = len(raw)
    while not begins_a_book(raw[:place]):
        place -= 1
    return [-6, place]


def chart_of(rows):
    """A chart's text with these rows."""
    return b"".join(row + b"\n" for row in rows)


def plain_chart(width, height, colour=b"a"):
    return chart_of([colour * width] * height)


def rows_of_chart(raw):
    """The rows, or None if the bytes are no right chart's text."""
    if ROWS.fullmatch(raw) is None:
        return None
    rows = raw.split(b"\n")[:-1]
    widths = {len(row) for row in rows}
    if len(widths) > 1 or max(widths) > 512 or len(rows) > 512 or sum(map(len, rows)) > 65536:
        return None
    return rows


def needs_by_the_words(colour, raw):
    """What needs has to answer."""
    if len(raw) > 66048:
        return [-2]
    rows = rows_of_chart(raw)
    if rows is None:
        return [-6]
    if colour not in list(COLOURS):
        return [-1]
    return [0] + [sum(knot == colour for knot in row) for row in rows]


def dyeings_of_colour(colour, raw):
    """The shade and the knots of each dyeing of the colour in the book's text."""
    lines = [line.split() for line in raw.split(b"\n")[:-1]]
    return [(int(line[1]), int(line[2])) for line in lines if line[0] == bytes([colour])]


def rows_given(row_needs, dyeings, way):
    """The rows that each dyeing of the way takes, or None if the way doesn't go."""
    waiting = [y for y, need in enumerate(row_needs) if need > 0]
    given = []
    for number in way:
        taken = []
        while waiting and sum(row_needs[y] for y in taken + waiting[:1]) <= dyeings[number][1]:
            taken.append(waiting.pop(0))
        if not taken:
            return None
        given.append(taken)
    return None if waiting else given


def cost_of_way(dyeings, way):
    return sum(abs(dyeings[one][0] - dyeings[other][0]) for one, other in zip(way, way[1:]))


def ways_that_go(row_needs, dyeings):
    """Every way that goes, found by trying every order of some of the dyeings."""
    going = []
    for many in range(len(dyeings) + 1):
        for way in itertools.permutations(range(len(dyeings)), many):
            if rows_given(row_needs, dyeings, way) is not None:
                going.append(way)
    return going


def told_by_the_words(row_needs, dyeings):
    """The way that's told, or None."""
    going = ways_that_go(row_needs, dyeings)
    return min(going, key=lambda way: (cost_of_way(dyeings, way), len(way), way), default=None)


def share_by_the_words(colour, chart, book):
    """What share has to answer for a right chart, a right book and a colour."""
    row_needs = needs_by_the_words(colour, chart)[1:]
    dyeings = dyeings_of_colour(colour, book)
    way = told_by_the_words(row_needs, dyeings)
    if way is None:
        return [-5]
    answer = [0]
    for number, rows in zip(way, rows_given(row_needs, dyeings, way)):
        answer += [number, rows[0], rows[-1], sum(row_needs[y] for y in rows)]
    return answer


def cost_by_the_words(colour, chart, book):
    """What cost has to answer for a right chart, a right book and a colour."""
    dyeings = dyeings_of_colour(colour, book)
    way = told_by_the_words(needs_by_the_words(colour, chart)[1:], dyeings)
    return [-5] if way is None else [cost_of_way(dyeings, way)]


def left_by_the_words(colour, chart, book):
    """What left has to answer for a right chart, a right book and a colour."""
    row_needs = needs_by_the_words(colour, chart)[1:]
    dyeings = dyeings_of_colour(colour, book)
    way = told_by_the_words(row_needs, dyeings)
    if way is None:
        return [-5]
    given = dict(zip(way, rows_given(row_needs, dyeings, way)))
    return [0] + [knots - sum(row_needs[y] for y in given.get(n, [])) for n, (shade, knots) in enumerate(dyeings)]


def all_costs_by_the_words(chart, book):
    """What all_costs has to answer for a right chart and a right book."""
    costs = [cost_by_the_words(colour, chart, book)[0] for colour in COLOURS]
    return [-5, costs.index(-5)] if -5 in costs else [sum(costs)]


def chart_of_needs(row_needs, width=None):
    """A chart in which the rows need so many knots of a, the other knots being of b."""
    width = width or max(max(row_needs), 1)
    return chart_of([b"a" * need + b"b" * (width - need) for need in row_needs])


def book_of(dyeings, colour=97):
    """A book's text with these dyeings, shade and knots, of one colour."""
    return b"".join(b"%c %d %d\n" % (colour, shade, knots) for shade, knots in dyeings)


def small_cases(seed, many):
    """Charts of a few rows and colours with books for them, made anew alike from the seed."""
    chance = random.Random(seed)
    for k in range(many):
        width = chance.randint(1, 6)
        height = chance.randint(1, 8)
        rows = [bytes(chance.choice(b"aaabbc") for x in range(width)) for y in range(height)]
        shades = chance.choice((2, 9, 999))
        book = b""
        for colour in b"abcd":
            dyeings = range(chance.choice((0, 1, 2, 3, 4, 4, 5)) if k % 8 else 6)
            enough = max(1, width * height // max(1, len(dyeings)))
            book += book_of([(chance.randint(0, shades), chance.randint(1, enough)) for n in dyeings], colour)
        yield chart_of(rows), book


RUN_CHART = b"aab\naba\nbbb\naaa\n"
RUN_BOOK = b"a 10 4\na 14 3\na 11 3\n"
# The run's chart with a book that is enough for both colours.
RIGHT = (97, RUN_CHART, RUN_BOOK + b"b 5 9\n")
NO_COLOURS = (0, 10, 32, 255, 256, 353, 4294967295)
# What can be refused, in the document's order: the refusal, which argument, and several that are at fault.
# Among the long texts are such that are wrong too, and among the wrong books such that no way goes with.
FAULTS = (
    (-2, 1, (b"a" * 66049, b" " * 66500, plain_chart(256, 257), plain_chart(128, 512) + b"a")),
    (-2, 2, (b"a" * 4097, b" " * 5000, (b"a 1 99\n" * 700)[:4097], (b"b 1 99\n" * 700)[:4097])),
    (-6, 1, (b"", b"aab\naba", b"aab\nab\n", b"aab\n\n", b"a a\n", plain_chart(257, 256), b"a" * 66048)),
    (-6, 2, (b"a 01 99\n", b"b 01 99\n", b"a 1 99", lines_of(b"aaaaaaa"), lines_of(b"ba"), b"a" * 4096)),
    (-1, 0, NO_COLOURS),
    (-5, 2, (b"", b"b 5 9\n", b"a 10 4\na 14 2\nb 5 9\n", b"a 10 4\nb 5 9\n", b"A 10 99999\nB 5 9\n")),
)


# Arguments of calls by a colour, a chart and a book: answered ones and one of each refusal.
MANY_CALLS = (
    RIGHT, (97, RUN_CHART, RUN_BOOK), (98, RUN_CHART, RUN_BOOK), (99, RUN_CHART, RUN_BOOK),
    (353, RUN_CHART, RUN_BOOK), (97, b"aa\na\n", RUN_BOOK), (97, RUN_CHART, b"a 01 1\n"),
    (97, b"a" * 66049, RUN_BOOK), (97, RUN_CHART, b"a" * 4097), (97, chart_of_needs([1] * 6), lines_of(b"aaaaaa")),
)


class Guarded(list):
    """A list that can't be changed, not for a while either."""

    def refuse(self, *args, **kwargs):
        raise AssertionError("what is handed in was changed")

    append = extend = insert = pop = remove = clear = sort = reverse = refuse
    __setitem__ = __delitem__ = __iadd__ = __imul__ = refuse


def fresh(arguments, make=list):
    """The arguments anew, texts as lists of their own."""
    return [make(argument) if isinstance(argument, (bytes, list)) else argument for argument in arguments]


class CallCase(unittest.TestCase):
    """What the document says of every call, each held over the arguments of several calls."""

    def leaves_what_is_handed_in(self, call, many):
        for arguments in many:
            handed = fresh(arguments, Guarded)
            call(*handed)
            self.assertEqual(handed, fresh(arguments))

    def answers_again_alike(self, call, many):
        for first, between in itertools.product(many, repeat=2):
            handed = fresh(first)
            answered = call(*handed)
            copied = list(answered)
            call(*fresh(between))
            self.assertEqual(call(*handed), copied)
            self.assertEqual(answered, copied)

    def keeps_no_answer(self, call, many):
        for arguments in many:
            answered = call(*fresh(arguments))
            copied = list(answered)
            answered.append(77)
            self.assertEqual(call(*fresh(arguments)), copied)

    def answers_whole_numbers(self, call, many):
        for arguments in many:
            answered = call(*fresh(arguments))
            self.assertIs(type(answered), list)
            for number in answered:
                self.assertIs(type(number), int)

    def refuses(self, call, faults, expected):
        """The call with the faults' arguments in the place of right ones answers what is expected."""
        arguments = list(RIGHT)
        for place, wrong in faults:
            arguments[place] = wrong
        self.assertEqual(call(*fresh(arguments)), expected, [(place, str(wrong)[:40]) for place, wrong in faults])

    def refuses_each_alone(self, call, faults, answer=lambda refused: [refused]):
        for refused, place, many in faults:
            for wrong in many:
                self.refuses(call, [(place, wrong)], answer(refused))

    def refuses_the_first_of_two(self, call, faults, answer=lambda refused: [refused]):
        for first, second in itertools.combinations(faults, 2):
            # Faults of one text stand together in the wrong texts themselves.
            if first[1] != second[1]:
                for one, other in itertools.product(first[2], second[2]):
                    self.refuses(call, [(first[1], one), (second[1], other)], answer(first[0]))

    def with_few_calls_within(self, call, *arguments):
        """What the call answers where only some thirty calls within one another are allowed."""
        depth = 0
        frame = sys._getframe()
        while frame is not None:
            depth += 1
            frame = frame.f_back
        limit = sys.getrecursionlimit()
        sys.setrecursionlimit(depth + 30)
        try:
            return call(*arguments)
        finally:
            sys.setrecursionlimit(limit)
