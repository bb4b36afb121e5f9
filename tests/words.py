"""Texts for the tests, the document's words taken as they stand, and what every call is held to."""

import itertools
import re
import sys
import unittest

COLOURS = b"abcdefghijklmnopqrstuvwxyzABCDEFGHIJKLMNOPQRSTUVWXYZ0123456789"
ROWS = re.compile(rb"(?:[a-zA-Z0-9]+\n)+")
LINE = re.compile(rb"([a-zA-Z0-9]) (0|[1-9][0-9]{0,2}) [1-9][0-9]{0,4}\n")
# One of these makes a whole line of any beginning of a line.
REST_OF_A_LINE = (b"", b" 1 1\n", b"1 1\n", b" 1\n", b"1\n", b"\n")


def text(written):
    """The list of bytes of a text in which / stands for the byte 10."""
    return list(written.replace("/", "\n").encode("ascii"))


def lines_of(colours):
    """A book's text with the shortest line for each colour."""
    return b"".join(bytes([colour]) + b" 1 1\n" for colour in colours)


def full_book(line_rest):
    """256 lines: six of each colour, and four of the last."""
    colours = [COLOURS[k // 6] for k in range(256)]
    return b"".join(bytes([colour]) + line_rest for colour in colours)


def dyeings_of_book(raw):
    """How many dyeings, or None if the bytes are no book's text."""
    colours = []
    place = 0
    while place < len(raw):
        found = LINE.match(raw, place)
        if found is None:
            return None
        colours.append(COLOURS.index(found.group(1)))
        place = found.end()
    if len(colours) > 256 or colours != sorted(colours):
        return None
    if any(colours.count(colour) > 6 for colour in colours):
        return None
    return len(colours)


def begins_a_book(raw):
    return any(dyeings_of_book(raw + rest) is not None for rest in REST_OF_A_LINE)


def judge_by_the_words(raw):
    """What judge has to answer, found from the definitions and by trying every beginning, longest first."""
    if len(raw) > 4096:
        return [-2]
    dyeings = dyeings_of_book(raw)
    if dyeings is not None:
        return [dyeings]
    place = len(raw)
    while not begins_a_book(raw[:place]):
        place -= 1
    return [-6, place]


def chart_of(rows):
    """A chart's text with these rows."""
    return b"".join(row + b"\n" for row in rows)


def plain_chart(width, height, colour=b"a"):
    return chart_of([colour * width] * height)


def rows_of_chart(raw):
    """The rows, or None if the bytes are no right chart's text."""
    if ROWS.fullmatch(raw) is None:
        return None
    rows = raw.split(b"\n")[:-1]
    widths = {len(row) for row in rows}
    if len(widths) > 1 or max(widths) > 512 or len(rows) > 512 or sum(map(len, rows)) > 65536:
        return None
    return rows


def needs_by_the_words(colour, raw):
    """What needs has to answer."""
    if len(raw) > 66048:
        return [-2]
    rows = rows_of_chart(raw)
    if rows is None:
        return [-6]
    if colour not in list(COLOURS):
        return [-1]
    return [0] + [sum(knot == colour for knot in row) for row in rows]


class Guarded(list):
    """A list that can't be changed, not for a while either."""

    def refuse(self, *args, **kwargs):
        raise AssertionError("what is handed in was changed")

    append = extend = insert = pop = remove = clear = sort = reverse = refuse
    __setitem__ = __delitem__ = __iadd__ = __imul__ = refuse


def fresh(arguments, make=list):
    """The arguments anew, texts as lists of their own."""
    return [make(argument) if isinstance(argument, (bytes, list)) else argument for argument in arguments]


class CallCase(unittest.TestCase):
    """What the document says of every call, each held over the arguments of several calls."""

    def leaves_what_is_handed_in(self, call, many):
        for arguments in many:
            handed = fresh(arguments, Guarded)
            call(*handed)
            self.assertEqual(handed, fresh(arguments))

    def answers_again_alike(self, call, many):
        for first, between in itertools.product(many, repeat=2):
            handed = fresh(first)
            answered = call(*handed)
            copied = list(answered)
            call(*fresh(between))
            self.assertEqual(call(*handed), copied)
            self.assertEqual(answered, copied)

    def keeps_no_answer(self, call, many):
        for arguments in many:
            answered = call(*fresh(arguments))
            copied = list(answered)
            answered.append(77)
            self.assertEqual(call(*fresh(arguments)), copied)

    def answers_whole_numbers(self, call, many):
        for arguments in many:
            answered = call(*fresh(arguments))
            self.assertIs(type(answered), list)
            for number in answered:
                self.assertIs(type(number), int)

    def is_a_call(self, call, many):
        self.leaves_what_is_handed_in(call, many)
        self.answers_again_alike(call, many)
        self.keeps_no_answer(call, many)
        self.answers_whole_numbers(call, many)

    def with_few_calls_within(self, call, *arguments):
        """What the call answers where only some thirty calls within one another are allowed."""
        depth = 0
        frame = sys._getframe()
        while frame is not None:
            depth += 1
            frame = frame.f_back
        limit = sys.getrecursionlimit()
        sys.setrecursionlimit(depth + 30)
        try:
            return call(*arguments)
        finally:
            sys.setrecursionlimit(limit)
