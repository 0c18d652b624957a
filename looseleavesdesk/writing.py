"""Writes findings and books as texts, lists of bytes."""

from looseleavesdesk.signs import BANG, BAR, BLANK, CARET, CLOSING, GREATER, LETTER_A, LETTER_H, LETTER_O, LINE_FEED
from looseleavesdesk.signs import OPENING, SLASH


def write_findings(leaves, findings):
    """The text of these findings of so many leaves."""
    text = write_number(leaves) + [LINE_FEED]
    for finding in findings:
        text.extend(write_finding(finding))
    return text


def write_finding(finding):
    """The finding's line."""
    words = [[BANG]] if finding.negated else []
    told = [write_part(finding.sign, part) for part in finding.told]
    if finding.sign in (LETTER_O, LETTER_H):
        words.append([finding.sign])
        words.extend(told)
    else:
        words.append(told[0])
        words.append([finding.sign])
        words.extend(told[1:])
    return put_together(words, [BLANK]) + [LINE_FEED]


def write_part(sign, part):
    """The side or the leaf that is told with this sign."""
    if sign in (GREATER, BAR, CARET, LETTER_H):
        return write_side(part // 2, part % 2)
    return write_number(part)


def write_book(gatherings):
    """The text of the book of these gatherings."""
    return put_together([write_gathering(gathering) for gathering in gatherings], [BLANK, SLASH, BLANK])


def write_gathering(gathering):
    """The gathering's leaves, a blank between two."""
    return put_together([write_leaf(leaf) for leaf in gathering], [BLANK])


def write_leaf(leaf):
    """The leaf's number and its front, with its sign."""
    before = [OPENING] if leaf.sign == OPENING else []
    behind = [CLOSING] if leaf.sign == CLOSING else []
    return before + write_side(leaf.number, leaf.front) + behind


def write_side(number, letter):
    """The leaf's number, then a for 0, b for 1."""
    return write_number(number) + [LETTER_A + letter]


def write_number(number):
    """The number's decimal digits."""
    return [ord(digit) for digit in str(number)]


def put_together(rows, between):
    """The rows one behind another, and what stands between two."""
    joined = []
    for place, row in enumerate(rows):
        if place > 0:
            joined.extend(between)
        joined.extend(row)
    return joined
