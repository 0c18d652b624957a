"""What the tests share: texts as lists of bytes, with the place of a fault marked by @."""

from looseleavesdesk.findings import book, judge

MARK = "@"


def refuse(*args, **kwargs):
    raise AssertionError("what was handed in is changed")


class Guarded(list):
    """A list that can't be changed, so that a change is seen even if it is taken back."""

    append = extend = insert = remove = pop = clear = sort = reverse = refuse
    __setitem__ = __delitem__ = __iadd__ = __imul__ = refuse


def as_bytes(text):
    return list(text.encode("ascii"))


def judged(text):
    return judge(as_bytes(text))


def booked(findings, text):
    return book(as_bytes(findings), as_bytes(text))


def unmarked(text):
    """The text without its mark, and the place where that stood."""
    place = text.index(MARK)
    return text[:place] + text[place + 1:], place


def one_byte_edits(text, alphabet):
    """Every text that one byte left out, put in or changed makes of this one, and every beginning of it."""
    made = set()
    for place in range(len(text) + 1):
        made.add(text[:place])
        made.add(text[:place] + text[place + 1:])
        for sign in alphabet:
            made.add(text[:place] + sign + text[place:])
            made.add(text[:place] + sign + text[place + 1:])
    return sorted(made)
