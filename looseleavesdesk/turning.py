"""Findings and books turned back to front."""

from looseleavesdesk.parts import Finding, LyingLeaf
from looseleavesdesk.signs import CARET, CLOSING, GREATER, LESS, OPENING


def turned_finding(finding):
    """The finding that holds of a book turned just if this one holds of the book."""
    if finding.sign == CARET:
        # A front becomes a back, and a leaf has just these two sides.
        return Finding(not finding.negated, finding.sign, finding.told)
    if finding.sign in (GREATER, LESS):
        return Finding(finding.negated, finding.sign, (finding.told[1], finding.told[0]))
    return finding


def turned_book(gatherings):
    """The gatherings of the book turned."""
    return [turned_gathering(gathering) for gathering in reversed(gatherings)]


def turned_gathering(gathering):
    """The leaves of the gathering turned."""
    return [LyingLeaf(leaf.number, 1 - leaf.front, turned_sign(leaf.sign)) for leaf in reversed(gathering)]


def turned_sign(sign):
    """A partner that came before now comes behind."""
    if sign == OPENING:
        return CLOSING
    if sign == CLOSING:
        return OPENING
    return sign
