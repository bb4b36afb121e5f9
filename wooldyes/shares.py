"""Dyeings of wool shared out: the calls of the program."""

TOO_LONG = -2
AT_FAULT = -6

NO_COLOUR = -1

BLANK = 32
LINE_END = 10
ZERO = 48
NINE = 57

MOST_BOOK_BYTES = 4096
MOST_LINES = 256
MOST_OF_ONE_COLOUR = 6
LEAST_SHADE = 0
MOST_SHADE = 999
LEAST_KNOTS = 1
MOST_KNOTS = 99999

# A line's parts: colour, blank, shade, blank, knots, line's end.
LINE_PARTS = 6
SHADE_PART = 2
KNOTS_PART = 4
END_PART = 5


def colour_number(byte):
    """The number of the colour that the byte is, or NO_COLOUR."""
    if 97 <= byte <= 122:
        return byte - 97
    if 65 <= byte <= 90:
        return byte - 65 + 26
    if ZERO <= byte <= NINE:
        return byte - ZERO + 52
    return NO_COLOUR


def byte_end(text, start, byte):
    """The place behind the byte, or start if it does not stand there."""
    if start < len(text) and text[start] == byte:
        return start + 1
    return start


def number_end(text, start, least, most):
    """The place behind the digits from start that can begin a number of least to most, least being 0 or 1."""
    value = 0
    place = start
    while place < len(text) and ZERO <= text[place] <= NINE:
        # A 0 in front is the whole number: a digit behind it would make it needless.
        if place > start and value == 0:
            return place
        value = value * 10 + text[place] - ZERO
        if value < least or value > most:
            return place
        place += 1
    return place


def part_end(text, start, part):
    """The place behind a line's part that begins at start, or start if nothing of it stands there."""
    if part == SHADE_PART:
        return number_end(text, start, LEAST_SHADE, MOST_SHADE)
    if part == KNOTS_PART:
        return number_end(text, start, LEAST_KNOTS, MOST_KNOTS)
    if part == END_PART:
        return byte_end(text, start, LINE_END)
    return byte_end(text, start, BLANK)


def line_ends(text, start):
    """The places behind the parts of the line that begins at start with a colour, as far as they are right."""
    ends = [start + 1]
    while len(ends) < LINE_PARTS:
        end = part_end(text, ends[-1], len(ends))
        if end == ends[-1]:
            return ends
        ends.append(end)
    return ends


def may_follow(colours, colour):
    """Whether a book with lines of these colours' numbers may go on with a line of the colour's number."""
    if colour == NO_COLOUR or len(colours) == MOST_LINES:
        return False
    if len(colours) > 0 and colour < colours[-1]:
        return False
    return colours.count(colour) < MOST_OF_ONE_COLOUR


def judge(b):
    """How many dyeings the book's text b has; or -2; or -6 and the place of its fault."""
    if len(b) > MOST_BOOK_BYTES:
        return [TOO_LONG]
    colours = []
    start = 0
    while start < len(b):
        colour = colour_number(b[start])
        if not may_follow(colours, colour):
            return [AT_FAULT, start]
        ends = line_ends(b, start)
        if len(ends) < LINE_PARTS:
            return [AT_FAULT, ends[-1]]
        colours.append(colour)
        start = ends[-1]
    return [len(colours)]
