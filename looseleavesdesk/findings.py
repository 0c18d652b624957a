"""The calls on texts of findings and on texts of books."""

MOST_BYTES = 8192
MOST_LEAVES = 16
MOST_FINDINGS = 64
MOST_DIGITS = 3

TOO_LONG = -2
BOOK_AT_FAULT = -3
FINDINGS_AT_FAULT = -6

# No byte is below 0, so what is read at a text's end is never taken for one.
END = -1

LINE_FEED = 10
BLANK = 32
BANG = 33
OPENING = 40
CLOSING = 41
SLASH = 47
ZERO = 48
NINE = 57
LESS = 60
EQUAL = 61
GREATER = 62
CARET = 94
LETTER_A = 97
LETTER_B = 98
LETTER_H = 104
LETTER_O = 111
BAR = 124
TILDE = 126


def judge(t):
    """How many findings the text t has."""
    if len(t) > MOST_BYTES:
        return [TOO_LONG]
    try:
        seen = read_findings(t)
    except FindingsFault as fault:
        return [FINDINGS_AT_FAULT, fault.place]
    return [len(seen.findings)]


def book(t, u):
    """How many gatherings the book u has, of the leaves that the text t counts."""
    if len(t) > MOST_BYTES or len(u) > MOST_BYTES:
        return [TOO_LONG]
    try:
        seen = read_findings(t)
    except FindingsFault as fault:
        return [FINDINGS_AT_FAULT, fault.place]
    try:
        gatherings = read_book(u, seen.leaves)
    except BookFault as fault:
        return [BOOK_AT_FAULT, fault.place]
    return [len(gatherings)]


class FindingsFault(Exception):
    """A text of findings is at fault at this place."""

    def __init__(self, place):
        self.place = place


class BookFault(Exception):
    """A text of a book is at fault at this place."""

    def __init__(self, place):
        self.place = place


class Reader:
    """Goes through a text once, byte by byte, and leaves it as it is."""

    def __init__(self, text, of_book):
        self.text = text
        self.of_book = of_book
        self.place = 0

    def fail(self, place):
        """Ends the reading. Both texts have numbers and letters, but each text has a refusal of its own."""
        if self.of_book:
            raise BookFault(place)
        raise FindingsFault(place)

    def byte(self):
        """The byte that stands here, or END."""
        if self.place < len(self.text):
            return self.text[self.place]
        return END

    def step(self):
        """Goes behind the byte that stands here."""
        self.place += 1

    def need(self, allowed):
        """Goes behind the byte that stands here and gives it back; only those allowed can stand."""
        found = self.byte()
        if found not in allowed:
            self.fail(self.place)
        self.step()
        return found

    def number(self):
        """Goes behind the number that stands here and gives it back, whatever its worth."""
        start = self.place
        worth = 0
        while ZERO <= self.byte() <= NINE:
            # A worth of 0 behind a digit means that the number began with 0 and so has ended.
            if self.place == start + MOST_DIGITS or (self.place > start and worth == 0):
                self.fail(self.place)
            worth = worth * 10 + self.byte() - ZERO
            self.step()
        if self.place == start:
            self.fail(start)
        return worth


class Findings:
    """How many leaves there are, and the findings in their order, each as read_finding gives it."""

    def __init__(self, leaves, findings):
        self.leaves = leaves
        self.findings = findings


def read_number(reader, least, most):
    """A number from least to most; one that isn't is a fault at its first digit."""
    start = reader.place
    number = reader.number()
    if number < least or number > most:
        reader.fail(start)
    return number


def read_letter(reader):
    """0 for a, 1 for b."""
    return reader.need((LETTER_A, LETTER_B)) - LETTER_A


def read_side(reader, leaves):
    """A side, as twice its leaf's number, and 1 more for side b."""
    leaf = read_number(reader, 1, leaves)
    return 2 * leaf + read_letter(reader)


def read_findings(text):
    """The Findings that the text tells."""
    reader = Reader(text, False)
    leaves = read_number(reader, 1, MOST_LEAVES)
    reader.need((LINE_FEED,))
    findings = []
    while reader.byte() != END:
        if len(findings) == MOST_FINDINGS:
            reader.fail(reader.place)
        findings.append(read_finding(reader, leaves))
    return Findings(leaves, findings)


def read_finding(reader, leaves):
    """A finding's line, as (1 if ! stands before it, else 0; its sign; a tuple of its leaves or sides)."""
    negated = 0
    if reader.byte() == BANG:
        negated = 1
        reader.step()
        reader.need((BLANK,))
    if reader.byte() in (LETTER_O, LETTER_H):
        plain = read_rising(reader, leaves)
    else:
        plain = read_related(reader, leaves)
    reader.need((LINE_FEED,))
    return (negated, plain[0], plain[1])


def read_rising(reader, leaves):
    """What is told by o or h, up to its line feed: the sign, and a tuple of the leaves or sides."""
    sign = reader.need((LETTER_O, LETTER_H))
    fewest = 2 if sign == LETTER_O else 1
    parts = []
    while len(parts) < fewest or reader.byte() != LINE_FEED:
        reader.need((BLANK,))
        start = reader.place
        part = read_number(reader, 1, leaves) if sign == LETTER_O else read_side(reader, leaves)
        if len(parts) > 0 and part <= parts[-1]:
            reader.fail(start)
        parts.append(part)
    return (sign, tuple(parts))


def read_related(reader, leaves):
    """What is told with its sign behind a leaf or a side: the sign, and a tuple of the leaves or sides."""
    leaf = read_number(reader, 1, leaves)
    if reader.byte() == BLANK:
        return read_behind_leaf(reader, leaves, leaf)
    side = 2 * leaf + read_letter(reader)
    return read_behind_side(reader, leaves, side)


def read_behind_leaf(reader, leaves, leaf):
    """The sign behind the leaf, and a tuple of the leaf and the other one (0 in L = 0)."""
    reader.need((BLANK,))
    sign = reader.need((EQUAL, LESS, TILDE))
    reader.need((BLANK,))
    start = reader.place
    other = read_number(reader, 0 if sign == EQUAL else 1, leaves)
    if other == leaf:
        reader.fail(start)
    return (sign, (leaf, other))


def read_behind_side(reader, leaves, side):
    """The sign behind the side, and a tuple of the side and, but for ^, the other one."""
    reader.need((BLANK,))
    sign = reader.need((GREATER, BAR, CARET))
    if sign == CARET:
        return (sign, (side,))
    reader.need((BLANK,))
    start = reader.place
    other = read_side(reader, leaves)
    # The two sides of one leaf can follow one another, but never face one another.
    if other == side or (sign == BAR and other // 2 == side // 2):
        reader.fail(start)
    return (sign, (side, other))


def read_book(text, leaves):
    """The book's gatherings in order, each a list of its leaves as read_lying_leaf gives them."""
    reader = Reader(text, True)
    gatherings = [[]]
    placed = {}
    waiting = 0
    while len(placed) < leaves:
        if len(placed) > 0 and read_whether_gathering_ends(reader, waiting):
            gatherings.append([])
        lying = read_lying_leaf(reader, leaves, placed, waiting)
        placed[lying[0]] = True
        if lying[2] == OPENING:
            waiting += 1
        if lying[2] == CLOSING:
            waiting -= 1
        gatherings[-1].append(lying)
    if waiting > 0 or reader.byte() != END:
        reader.fail(reader.place)
    return gatherings


def read_whether_gathering_ends(reader, waiting):
    """Goes behind what stands between two leaves; True if that is the end of a gathering."""
    blank = reader.place
    reader.need((BLANK,))
    if reader.byte() != SLASH:
        return False
    if waiting > 0:
        reader.fail(blank)
    reader.step()
    reader.need((BLANK,))
    return True


def read_lying_leaf(reader, leaves, placed, waiting):
    """A leaf of a book, as (its number; 0 if its side a is in front, 1 if b is; its sign)."""
    start = reader.place
    sign = BAR
    if reader.byte() == OPENING:
        sign = OPENING
        reader.step()
    number = reader.number()
    if number < 1 or number > leaves or number in placed:
        reader.fail(start)
    letter = read_letter(reader)
    if reader.byte() == CLOSING:
        if sign == OPENING or waiting == 0:
            reader.fail(reader.place)
        sign = CLOSING
        reader.step()
    return (number, letter, sign)
