"""Things' text: a line of bytes for each thing."""

from closedbook.order import MOST_PROPERTIES

MOST_THINGS = 64
LINE_FEED = 10
HAS = 120
LACKS = 46


def split_lines(text):
    """The lines of a text that ends with a line feed, without their line feeds."""
    lines = []
    line = []
    for byte in text:
        if byte == LINE_FEED:
            lines.append(line)
            line = []
        else:
            line.append(byte)
    return lines


def is_line(line, width):
    if len(line) != width:
        return False
    return all([byte == HAS or byte == LACKS for byte in line])


def lines_of_text(text):
    """The lines of a things' text, or None if it is none."""
    if len(text) == 0 or text[-1] != LINE_FEED:
        return None
    lines = split_lines(text)
    width = len(lines[0])
    if len(lines) > MOST_THINGS or width > MOST_PROPERTIES:
        return None
    if not all([is_line(line, width) for line in lines]):
        return None
    return lines


def thing_of_line(line):
    thing = 0
    for place, byte in enumerate(line):
        if byte == HAS:
            thing = thing | (1 << place)
    return thing


def line_of_thing(thing, width):
    line = []
    for place in range(width):
        line.append(HAS if (thing >> place) & 1 else LACKS)
    line.append(LINE_FEED)
    return line


def text_of_things(things, width):
    text = []
    for thing in things:
        text.extend(line_of_thing(thing, width))
    return text
