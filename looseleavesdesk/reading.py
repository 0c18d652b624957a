"""Reads texts of findings and texts of books, and finds the place of a fault."""

from looseleavesdesk.parts import Finding, LyingLeaf
from looseleavesdesk.signs import BANG, BAR, BLANK, CARET, CLOSING, EQUAL, GREATER, LESS, LETTER_A, LETTER_B
from looseleavesdesk.signs import LETTER_H, LETTER_O, LINE_FEED, NINE, OPENING, SLASH, TILDE, ZERO

MOST_BYTES = 8192
MOST_LEAVES = 16
MOST_FINDINGS = 64
MOST_DIGITS = 3

TOO_LONG = -2
BOOK_AT_FAULT = -3
FINDINGS_AT_FAULT = -6

# No byte is below 0, so what is read at a text's end is never taken for one.
END = -1


class TooLong(Exception):
    """A text has more bytes than are read."""

    def __init__(self):
        self.answer = [TOO_LONG]


class FindingsFault(Exception):
    """A text of findings is at fault at this place."""

    def __init__(self, place):
        self.answer = [FINDINGS_AT_FAULT, place]


class BookFault(Exception):
    """A text of a book is at fault at this place."""

    def __init__(self, place):
        self.answer = [BOOK_AT_FAULT, place]


class Seen:
    """How many leaves there are, and the findings in their order."""

    def __init__(self, leaves, findings):
        self.leaves = leaves
        self.findings = findings


class Case:
    """What was seen, and how the leaves may have lain: the gatherings in order, each a list of its leaves."""

    def __init__(self, seen, gatherings):
        self.leaves = seen.leaves
        self.findings = seen.findings
        self.gatherings = gatherings


def read_seen(t):
    """What the text t of findings tells, as Seen."""
    need_short(t)
    return read_findings(t)


def read_case(t, u):
    """What the text t of findings and the text u of a book of its leaves tell, as a Case."""
    # A text that is too long is refused before the other one is looked at.
    need_short(t)
    need_short(u)
    seen = read_findings(t)
    return Case(seen, read_book(u, seen.leaves))


def need_short(text):
    """Refuses a text of too many bytes."""
    if len(text) > MOST_BYTES:
        raise TooLong()


class Reader:
    """Goes through a text once, byte by byte, and leaves it as it is."""

    def __init__(self, text, of_book):
        self.text = text
        self.of_book = of_book
        self.place = 0

    def fail(self, place):
        """Ends the reading. Both texts have numbers and letters, but each text has a refusal of its own."""
        if self.of_book:
            raise BookFault(place)
        raise FindingsFault(place)

    def byte(self):
        """The byte that stands here, or END."""
        if self.place < len(self.text):
            return self.text[self.place]
        return END

    def step(self):
        """Goes behind the byte that stands here."""
        self.place += 1

    def need(self, allowed):
        """Goes behind the byte that stands here and gives it back; only those allowed can stand."""
        found = self.byte()
        if found not in allowed:
            self.fail(self.place)
        self.step()
        return found

    def take_number(self):
        """Goes behind the number that stands here and gives it back, whatever its worth."""
        start = self.place
        worth = 0
        while ZERO <= self.byte() <= NINE:
            # A worth of 0 behind a digit means that the number began with 0 and so has ended.
            if self.place == start + MOST_DIGITS or (self.place > start and worth == 0):
                self.fail(self.place)
            worth = worth * 10 + self.byte() - ZERO
            self.step()
        if self.place == start:
            self.fail(start)
        return worth


def read_number(reader, least, most):
    """A number from least to most; one that isn't is a fault at its first digit."""
    start = reader.place
    number = reader.take_number()
    if number < least or number > most:
        reader.fail(start)
    return number


def read_letter(reader):
    """0 for a, 1 for b."""
    return reader.need((LETTER_A, LETTER_B)) - LETTER_A


def read_side(reader, leaves):
    """A side, as twice its leaf's number, and 1 more for side b."""
    leaf = read_number(reader, 1, leaves)
    return 2 * leaf + read_letter(reader)


def read_findings(text):
    """What the text of findings tells, as Seen."""
    reader = Reader(text, False)
    leaves = read_number(reader, 1, MOST_LEAVES)
    reader.need((LINE_FEED,))
    findings = []
    while reader.byte() != END:
        if len(findings) == MOST_FINDINGS:
            reader.fail(reader.place)
        findings.append(read_finding(reader, leaves))
    return Seen(leaves, findings)


def read_finding(reader, leaves):
    """A finding's line, as a Finding."""
    negated = reader.byte() == BANG
    if negated:
        reader.step()
        reader.need((BLANK,))
    if reader.byte() in (LETTER_O, LETTER_H):
        finding = read_rising(reader, leaves, negated)
    else:
        finding = read_related(reader, leaves, negated)
    reader.need((LINE_FEED,))
    return finding


def read_rising(reader, leaves, negated):
    """What is told by o or h, up to its line feed."""
    sign = reader.need((LETTER_O, LETTER_H))
    fewest = 2 if sign == LETTER_O else 1
    told = []
    while len(told) < fewest or reader.byte() != LINE_FEED:
        reader.need((BLANK,))
        start = reader.place
        part = read_number(reader, 1, leaves) if sign == LETTER_O else read_side(reader, leaves)
        if len(told) > 0 and part <= told[-1]:
            reader.fail(start)
        told.append(part)
    return Finding(negated, sign, tuple(told))


def read_related(reader, leaves, negated):
    """What is told with its sign behind a leaf or a side, up to its line feed."""
    leaf = read_number(reader, 1, leaves)
    if reader.byte() == BLANK:
        return read_behind_leaf(reader, leaves, negated, leaf)
    side = 2 * leaf + read_letter(reader)
    return read_behind_side(reader, leaves, negated, side)


def read_behind_leaf(reader, leaves, negated, leaf):
    """What is told of the leaf and another one, or 0 in L = 0."""
    reader.need((BLANK,))
    sign = reader.need((EQUAL, LESS, TILDE))
    reader.need((BLANK,))
    start = reader.place
    other = read_number(reader, 0 if sign == EQUAL else 1, leaves)
    if other == leaf:
        reader.fail(start)
    return Finding(negated, sign, (leaf, other))


def read_behind_side(reader, leaves, negated, side):
    """What is told of the side and, but for ^, another one."""
    reader.need((BLANK,))
    sign = reader.need((GREATER, BAR, CARET))
    if sign == CARET:
        return Finding(negated, sign, (side,))
    reader.need((BLANK,))
    start = reader.place
    other = read_side(reader, leaves)
    # The two sides of one leaf can follow one another, but never face one another.
    if other == side or (sign == BAR and other // 2 == side // 2):
        reader.fail(start)
    return Finding(negated, sign, (side, other))


def read_book(text, leaves):
    """The book's gatherings in order, each a list of its leaves."""
    reader = Reader(text, True)
    gatherings = [[]]
    placed = {}
    waiting = 0
    while len(placed) < leaves:
        if len(placed) > 0 and read_whether_gathering_ends(reader, waiting):
            gatherings.append([])
        leaf = read_lying_leaf(reader, leaves, placed, waiting)
        placed[leaf.number] = True
        if leaf.sign == OPENING:
            waiting += 1
        if leaf.sign == CLOSING:
            waiting -= 1
        gatherings[-1].append(leaf)
    if waiting > 0 or reader.byte() != END:
        reader.fail(reader.place)
    return gatherings


def read_whether_gathering_ends(reader, waiting):
    """Goes behind what stands between two leaves; True if that is the end of a gathering."""
    blank = reader.place
    reader.need((BLANK,))
    if reader.byte() != SLASH:
        return False
    if waiting > 0:
        reader.fail(blank)
    reader.step()
    reader.need((BLANK,))
    return True


def read_lying_leaf(reader, leaves, placed, waiting):
    """A leaf of a book, as a LyingLeaf."""
    start = reader.place
    sign = BAR
    if reader.byte() == OPENING:
        sign = OPENING
        reader.step()
    number = reader.take_number()
    if number < 1 or number > leaves or number in placed:
        reader.fail(start)
    letter = read_letter(reader)
    if reader.byte() == CLOSING:
        if sign == OPENING or waiting == 0:
            reader.fail(reader.place)
        sign = CLOSING
        reader.step()
    return LyingLeaf(number, letter, sign)
