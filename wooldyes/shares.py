"""Dyeings of wool shared out: the calls of the program."""

# What a call answers first: 0 where more is told, or a refusal.
NOT_REFUSED = 0
NO_COLOUR = -1
TOO_LONG = -2
NO_WAY = -5
AT_FAULT = -6

BLANK = 32
LINE_END = 10
ZERO = 48
NINE = 57

MOST_CHART_BYTES = 66048
MOST_WIDTH = 512
MOST_HEIGHT = 512
MOST_CHART_KNOTS = 65536

MOST_BOOK_BYTES = 4096
MOST_LINES = 256
MOST_OF_ONE_COLOUR = 6
LEAST_SHADE = 0
MOST_SHADE = 999
LEAST_KNOTS = 1
MOST_KNOTS = 99999

# A line's parts: colour, blank, shade, blank, knots, line's end.
LINE_PARTS = 6
SHADE_PART = 2
KNOTS_PART = 4
END_PART = 5


class Dyeing:
    def __init__(self, shade, knots):
        """A dyeing of a colour: its shade and how many knots it's enough for."""
        self.shade = shade
        self.knots = knots


class Need:
    def __init__(self, row, knots):
        """A row that needs a colour, and how many knots of it."""
        self.row = row
        self.knots = knots


class Way:
    def __init__(self, change, numbers, ends):
        """A way or the beginning of one: its cost, its dyeings' numbers, and the places where their rows end.

        The places count the rows that need the colour; dyeing k of the way takes them from ends[k] to ends[k + 1].
        """
        self.change = change
        self.numbers = numbers
        self.ends = ends


def colour_number(byte):
    """The number of the colour that the byte is, or NO_COLOUR."""
    if 97 <= byte <= 122:
        return byte - 97
    if 65 <= byte <= 90:
        return byte - 65 + 26
    if ZERO <= byte <= NINE:
        return byte - ZERO + 52
    return NO_COLOUR


def colours_by_number():
    """The bytes of all colours, in the order of their numbers."""
    return list(range(97, 123)) + list(range(65, 91)) + list(range(ZERO, NINE + 1))


def byte_end(text, start, byte):
    """The place behind the byte, or start if it does not stand there."""
    if start < len(text) and text[start] == byte:
        return start + 1
    return start


def number_end(text, start, least, most):
    """The place behind the digits from start that can begin a number of least to most, least being 0 or 1."""
    value = 0
    place = start
    while place < len(text) and ZERO <= text[place] <= NINE:
        # A 0 in front is the whole number: a digit behind it would make it needless.
        if place > start and value == 0:
            return place
        value = value * 10 + text[place] - ZERO
        if value < least or value > most:
            return place
        place += 1
    return place


def part_end(text, start, part):
    """The place behind a line's part that begins at start, or start if nothing of it stands there."""
    if part == SHADE_PART:
        return number_end(text, start, LEAST_SHADE, MOST_SHADE)
    if part == KNOTS_PART:
        return number_end(text, start, LEAST_KNOTS, MOST_KNOTS)
    if part == END_PART:
        return byte_end(text, start, LINE_END)
    return byte_end(text, start, BLANK)


def line_ends(text, start):
    """The places behind the parts of the line that begins at start with a colour, as far as they are right."""
    ends = [start + 1]
    while len(ends) < LINE_PARTS:
        end = part_end(text, ends[-1], len(ends))
        if end == ends[-1]:
            return ends
        ends.append(end)
    return ends


def may_follow(colours, colour):
    """Whether a book with lines of these colours' numbers may go on with a line of the colour's number."""
    if colour == NO_COLOUR or len(colours) == MOST_LINES:
        return False
    if len(colours) > 0 and colour < colours[-1]:
        return False
    return colours.count(colour) < MOST_OF_ONE_COLOUR


def judge(b):
    """How many dyeings the book's text b has; or -2; or -6 and the place of its fault."""
    if len(b) > MOST_BOOK_BYTES:
        return [TOO_LONG]
    colours = []
    start = 0
    while start < len(b):
        colour = colour_number(b[start])
        if not may_follow(colours, colour):
            return [AT_FAULT, start]
        ends = line_ends(b, start)
        if len(ends) < LINE_PARTS:
            return [AT_FAULT, ends[-1]]
        colours.append(colour)
        start = ends[-1]
    return [len(colours)]


def chart_rows(t):
    """The rows of the chart's text t, without the bytes 10; what has no byte 10 behind it is left out."""
    rows = []
    start = 0
    for place, byte in enumerate(t):
        if byte == LINE_END:
            rows.append(t[start:place])
            start = place + 1
    return rows


def is_chart_row(row, width):
    """Whether the row is so wide and has a colour at each knot."""
    return len(row) == width and all([colour_number(byte) != NO_COLOUR for byte in row])


def is_chart(t):
    """Whether t is a right chart's text."""
    if len(t) == 0 or t[-1] != LINE_END:
        return False
    rows = chart_rows(t)
    width = len(rows[0])
    if width < 1 or width > MOST_WIDTH or len(rows) > MOST_HEIGHT:
        return False
    if width * len(rows) > MOST_CHART_KNOTS:
        return False
    return all([is_chart_row(row, width) for row in rows])


def texts_refusal(t, b):
    """The refusal of a chart's text t and a book's text b, or NOT_REFUSED."""
    if len(t) > MOST_CHART_BYTES or len(b) > MOST_BOOK_BYTES:
        return TOO_LONG
    if not is_chart(t) or judge(b)[0] == AT_FAULT:
        return AT_FAULT
    return NOT_REFUSED


def refusal(colour, t, b):
    """The refusal of the texts, then of the colour, or NOT_REFUSED."""
    refused = texts_refusal(t, b)
    if refused == NOT_REFUSED and colour_number(colour) == NO_COLOUR:
        return NO_COLOUR
    return refused


def needs(colour, t):
    """0 and the colour's need in each row of the chart's text t; or -2, -6 or -1."""
    # The empty text is a book's: only t and the colour can be refused here.
    refused = refusal(colour, t, [])
    if refused != NOT_REFUSED:
        return [refused]
    return [NOT_REFUSED] + [row.count(colour) for row in chart_rows(t)]


def part_number(text, ends, part):
    """The number that is a line's part, the parts' ends being known."""
    value = 0
    for digit in text[ends[part - 1]:ends[part]]:
        value = value * 10 + digit - ZERO
    return value


def book_dyeings(b):
    """The dyeings of the right book's text b, for each colour's byte in it a list as their lines come."""
    dyeings = {}
    start = 0
    while start < len(b):
        ends = line_ends(b, start)
        dyeing = Dyeing(part_number(b, ends, SHADE_PART), part_number(b, ends, KNOTS_PART))
        dyeings.setdefault(b[start], []).append(dyeing)
        start = ends[-1]
    return dyeings


def rows_in_need(colour, rows):
    """The rows that need the colour, from the top."""
    return [Need(y, row.count(colour)) for y, row in enumerate(rows) if colour in row]


def ends_from_each(wanted, knots):
    """Of each place among the wanted rows: the place behind the rows that so many knots are enough for from there."""
    ends = []
    end = 0
    spare = knots
    for start, need in enumerate(wanted):
        while end < len(wanted) and wanted[end].knots <= spare:
            spare -= wanted[end].knots
            end += 1
        ends.append(end)
        if end > start:
            spare += need.knots
        else:
            end = start + 1
    return ends


def longer_ways(way, dyeings, ends):
    """The way with one dyeing more that takes a row, ends[n][place] being where dyeing n ends from a place."""
    place = way.ends[-1]
    longer = []
    for number, dyeing in enumerate(dyeings):
        end = ends[number][place]
        if number not in way.numbers and end > place:
            change = way.change
            if len(way.numbers) > 0:
                change += abs(dyeing.shade - dyeings[way.numbers[-1]].shade)
            longer.append(Way(change, way.numbers + [number], way.ends + [end]))
    return longer


def rank(way):
    """What tells which way that goes is told: the least."""
    return (way.change, len(way.numbers), way.numbers)


def told_way(wanted, dyeings):
    """The way that's told for the wanted rows, or None if no way goes."""
    ends = [ends_from_each(wanted, dyeing.knots) for dyeing in dyeings]
    begun = [Way(0, [], [0])]
    going = []
    # A way ends with the last row: one more dyeing would take none.
    while len(begun) > 0:
        going.extend([way for way in begun if way.ends[-1] == len(wanted)])
        unfinished = [way for way in begun if way.ends[-1] < len(wanted)]
        begun = []
        for way in unfinished:
            begun.extend(longer_ways(way, dyeings, ends))
    return min(going, key=rank, default=None)


def answer_of_way(colour, t, b, tell):
    """What tell(way, wanted, dyeings) makes of the way that's told; or -2, -6, -1 or -5."""
    refused = refusal(colour, t, b)
    if refused != NOT_REFUSED:
        return [refused]
    wanted = rows_in_need(colour, chart_rows(t))
    dyeings = book_dyeings(b).get(colour, [])
    way = told_way(wanted, dyeings)
    if way is None:
        return [NO_WAY]
    return tell(way, wanted, dyeings)


def knots_taken(way, wanted, k):
    """How many knots the wanted rows that dyeing k of the way takes need."""
    return sum([need.knots for need in wanted[way.ends[k]:way.ends[k + 1]]])


def tell_share(way, wanted, dyeings):
    """0 and of each dyeing of the way its number, its first row, its last row and its knots."""
    told = [NOT_REFUSED]
    for k, number in enumerate(way.numbers):
        first = wanted[way.ends[k]]
        last = wanted[way.ends[k + 1] - 1]
        told.extend([number, first.row, last.row, knots_taken(way, wanted, k)])
    return told


def share(colour, t, b):
    """0 and the way that's told, four numbers a dyeing; or -2, -6, -1 or -5."""
    return answer_of_way(colour, t, b, tell_share)


def tell_cost(way, wanted, dyeings):
    """The way's cost."""
    return [way.change]


def cost(colour, t, b):
    """The cost of the way that's told; or -2, -6, -1 or -5."""
    return answer_of_way(colour, t, b, tell_cost)


def all_costs(t, b):
    """The costs of all colours together; or -2 or -6; or -5 and the number of the first colour without a way."""
    refused = texts_refusal(t, b)
    if refused != NOT_REFUSED:
        return [refused]
    rows = chart_rows(t)
    dyeings = book_dyeings(b)
    together = 0
    for number, colour in enumerate(colours_by_number()):
        way = told_way(rows_in_need(colour, rows), dyeings.get(colour, []))
        if way is None:
            return [NO_WAY, number]
        together += way.change
    return [together]


def tell_left(way, wanted, dyeings):
    """0 and of each dyeing of the colour, in the book's order, the knots that the way leaves of it."""
    knots = [dyeing.knots for dyeing in dyeings]
    for k, number in enumerate(way.numbers):
        knots[number] -= knots_taken(way, wanted, k)
    return [NOT_REFUSED] + knots


def left(colour, t, b):
    """0 and what is left of each dyeing of the colour behind the way that's told; or -2, -6, -1 or -5."""
    return answer_of_way(colour, t, b, tell_left)
