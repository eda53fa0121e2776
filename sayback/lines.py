"""Lines, their parts and their numbers, in a lexicon's and in the joins' text."""

LINE_END = 0x0A
BLANK = 0x20
DIGIT_0 = 0x30
DIGIT_9 = 0x39
ABOVE_ALL_BOUNDS = 65536


def lines_of(t):
    """The lines that end with 0AH, without it, and what stands behind the last of them."""
    lines = parts_at(t, LINE_END)
    behind = lines.pop()
    return lines, behind


def parts_of(line):
    """The parts of a line, which blanks part."""
    return parts_at(line, BLANK)


def parts_at(octets, mark):
    """What stands before, between and behind the marks: one part more than there are marks."""
    parts = []
    start = 0
    for place, octet in enumerate(octets):
        if octet == mark:
            parts.append(octets[start:place])
            start = place + 1
    parts.append(octets[start:])
    return parts


def number_of(part):
    """The number that a part tells in decimal, or None if it tells none."""
    if not part or (part[0] == DIGIT_0 and len(part) > 1):
        return None
    number = 0
    for octet in part:
        if not DIGIT_0 <= octet <= DIGIT_9:
            return None
        # Of a number past all bounds only this counts, so a long row of digits isn't worked out.
        number = min(number * 10 + octet - DIGIT_0, ABOVE_ALL_BOUNDS)
    return number
