"""Books for the tests, and the document's words on books taken as they stand."""

import re

COLOURS = b"abcdefghijklmnopqrstuvwxyzABCDEFGHIJKLMNOPQRSTUVWXYZ0123456789"
LINE = re.compile(rb"([a-zA-Z0-9]) (0|[1-9][0-9]{0,2}) [1-9][0-9]{0,4}\n")
# One of these makes a whole line of any beginning of a line.
REST_OF_A_LINE = (b"", b" 1 1\n", b"1 1\n", b" 1\n", b"1\n", b"\n")


def text(written):
    """The list of bytes of a text in which / stands for the byte 10."""
    return list(written.replace("/", "\n").encode("ascii"))


def lines_of(colours):
    """A book's text with the shortest line for each colour."""
    return b"".join(bytes([colour]) + b" 1 1\n" for colour in colours)


def full_book(line_rest):
    """256 lines: six of each colour, and four of the last."""
    colours = [COLOURS[k // 6] for k in range(256)]
    return b"".join(bytes([colour]) + line_rest for colour in colours)


def dyeings_of_book(raw):
    """How many dyeings, or None if the bytes are no book's text."""
    colours = []
    place = 0
    while place < len(raw):
        found = LINE.match(raw, place)
        if found is None:
            return None
        colours.append(COLOURS.index(found.group(1)))
        place = found.end()
    if len(colours) > 256 or colours != sorted(colours):
        return None
    if any(colours.count(colour) > 6 for colour in colours):
        return None
    return len(colours)


def begins_a_book(raw):
    return any(dyeings_of_book(raw + rest) is not None for rest in REST_OF_A_LINE)


def answer_by_the_words(raw):
    """What judge has to answer, found from the definitions and by trying every beginning, longest first."""
    if len(raw) > 4096:
        return [-2]
    dyeings = dyeings_of_book(raw)
    if dyeings is not None:
        return [dyeings]
    place = len(raw)
    while not begins_a_book(raw[:place]):
        place -= 1
    return [-6, place]
