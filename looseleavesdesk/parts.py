"""What the texts are made of: findings, and leaves as they lie in a book.

A side is a whole number: twice its leaf's number, and 1 more for side b.
"""


class Finding:
    """A finding: whether a ! stands before it, its sign, and a tuple of its leaves or sides in the text's order."""

    def __init__(self, negated, sign, told):
        self.negated = negated
        self.sign = sign
        self.told = told


class LyingLeaf:
    """A leaf of a book: its number; 0 if its side a is in front, 1 if b is; its sign."""

    def __init__(self, number, front, sign):
        self.number = number
        self.front = front
        self.sign = sign
