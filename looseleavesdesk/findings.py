"""The calls on texts of findings and on texts of books."""

from looseleavesdesk.holding import finding_holds
from looseleavesdesk.lying import Lying
from looseleavesdesk.reading import BookFault, FindingsFault, TooLong, read_case, read_seen
from looseleavesdesk.turning import turned_book, turned_finding
from looseleavesdesk.writing import write_book, write_findings

NONE_SUCH = -4


def judge(t):
    """How many findings the text t has."""
    try:
        seen = read_seen(t)
    except (TooLong, FindingsFault) as refusal:
        return refusal.answer
    return [len(seen.findings)]


def book(t, u):
    """How many gatherings the book u has, of the leaves that the text t counts."""
    try:
        case = read_case(t, u)
    except (TooLong, FindingsFault, BookFault) as refusal:
        return refusal.answer
    return [len(case.gatherings)]


def agrees(t, u):
    """0 if all findings of t hold of the book u, else the number, from 1, of the first that doesn't."""
    try:
        case = read_case(t, u)
    except (TooLong, FindingsFault, BookFault) as refusal:
        return refusal.answer[:1]
    lying = Lying(case.gatherings)
    for number, finding in enumerate(case.findings, start=1):
        if not finding_holds(finding, lying):
            return [number]
    return [0]


def holds(k, t, u):
    """1 if finding k of t, numbered from 0, holds of the book u, else 0."""
    try:
        case = read_case(t, u)
    except (TooLong, FindingsFault, BookFault) as refusal:
        return refusal.answer[:1]
    if k >= len(case.findings):
        return [NONE_SUCH]
    return [1 if finding_holds(case.findings[k], Lying(case.gatherings)) else 0]


def leaf(l, t, u):
    """How many leaves lie before leaf l, its gathering from 0, its partner or 0, and 1 if its side b is in front."""
    try:
        case = read_case(t, u)
    except (TooLong, FindingsFault, BookFault) as refusal:
        return refusal.answer[:1]
    if l < 1 or l > case.leaves:
        return [NONE_SUCH]
    lying = Lying(case.gatherings)
    front = 0 if lying.is_front(2 * l) else 1
    return [lying.leaf_place(l), lying.gathering_numbers[l], lying.partners[l], front]


def sides(t, u):
    """How many sides the book u has, then these in order, each as twice its leaf's number, and 1 more for side b."""
    try:
        case = read_case(t, u)
    except (TooLong, FindingsFault, BookFault) as refusal:
        return refusal.answer[:1]
    in_order = Lying(case.gatherings).sides_in_order
    return [len(in_order)] + in_order


def turn(t):
    """How many bytes the text of the findings turned has, then these."""
    try:
        seen = read_seen(t)
    except (TooLong, FindingsFault) as refusal:
        return refusal.answer[:1]
    text = write_findings(seen.leaves, [turned_finding(finding) for finding in seen.findings])
    return [len(text)] + text


def back(t, u):
    """How many bytes the text of the book u turned has, then these."""
    try:
        case = read_case(t, u)
    except (TooLong, FindingsFault, BookFault) as refusal:
        return refusal.answer[:1]
    text = write_book(turned_book(case.gatherings))
    return [len(text)] + text
