"""leaf and sides: where each leaf and each side lies, and what is refused. C4."""

import itertools
import random
import unittest

from helper import CallsOfBoth, as_bytes, book_texts, findings_text, gatherings_of, leaves_from_1, partners_of
from helper import side_texts, sides_of, some_book
from looseleavesdesk.findings import holds, leaf, sides


def leaf_of(number, leaves, text):
    return leaf(number, as_bytes(f"{leaves}\n"), as_bytes(text))


def sides_told(leaves, text):
    return sides(as_bytes(f"{leaves}\n"), as_bytes(text))


def side_number(side):
    return 2 * int(side[:-1]) + "ab".index(side[-1])


def holding(leaves, findings, text):
    """Those of the findings that hold of the book."""
    kept = []
    for start in range(0, len(findings), 64):
        some = findings[start:start + 64]
        t = as_bytes(findings_text(leaves, some))
        kept += [finding for k, finding in enumerate(some) if holds(k, t, as_bytes(text)) == [1]]
    return kept


class Leaf(CallsOfBoth, unittest.TestCase):
    def call(self, t, u):
        return leaf(1, t, u)

    def none_such(self, t, u):
        return leaf(0, t, u)

    def leaves_lie(self, text, *answers):
        for number, answer in enumerate(answers, start=1):
            with self.subTest(text, leaf=number):
                self.assertEqual(leaf_of(number, len(answers), text), list(answer))

    def test_one_leaf(self):
        self.leaves_lie("1a", (0, 0, 0, 0))
        self.leaves_lie("1b", (0, 0, 0, 1))

    def test_one_gathering(self):
        self.leaves_lie("1a 2b 3a", (0, 0, 0, 0), (1, 0, 0, 1), (2, 0, 0, 0))
        self.leaves_lie("3b 1a 2b", (1, 0, 0, 0), (2, 0, 0, 1), (0, 0, 0, 1))
        self.leaves_lie("(2a 1b) 3b", (1, 0, 2, 1), (0, 0, 1, 0), (2, 0, 0, 1))
        self.leaves_lie("(3a 1b 2a)", (1, 0, 0, 1), (2, 0, 3, 0), (0, 0, 2, 0))

    def test_pairs_within_pairs(self):
        self.leaves_lie("(1a (2b 3a) 4b)", (0, 0, 4, 0), (1, 0, 3, 1), (2, 0, 2, 0), (3, 0, 1, 1))
        self.leaves_lie(
            "(6a (1b 2a (5a 3b) 7a) 4b)",
            (1, 0, 7, 1), (2, 0, 0, 0), (4, 0, 5, 1), (6, 0, 6, 1), (3, 0, 3, 0), (0, 0, 4, 0), (5, 0, 1, 0),
        )

    def test_pairs_beside_one_another(self):
        self.leaves_lie("(1a 2b) (3b 4a)", (0, 0, 2, 0), (1, 0, 1, 1), (2, 0, 4, 1), (3, 0, 3, 0))
        self.leaves_lie(
            "(1a (2a 3a) 4b (5b 6a) 7b)",
            (0, 0, 7, 0), (1, 0, 3, 0), (2, 0, 2, 0), (3, 0, 0, 1), (4, 0, 6, 1), (5, 0, 5, 0), (6, 0, 1, 1),
        )

    def test_several_gatherings(self):
        self.leaves_lie("2b / 3a / 1b", (2, 2, 0, 1), (0, 0, 0, 1), (1, 1, 0, 0))
        self.leaves_lie("4a / (5b 1a) 3a / 2b", (2, 1, 5, 0), (4, 2, 0, 1), (3, 1, 0, 0), (0, 0, 0, 0), (1, 1, 1, 1))
        self.leaves_lie("(1a 4b) / (3b 2a)", (0, 0, 4, 0), (3, 1, 3, 0), (2, 1, 2, 1), (1, 0, 1, 1))

    def test_sixteen_leaves(self):
        for front, letter in enumerate("ab"):
            alone = leaves_from_1(16, letter)
            self.leaves_lie(" ".join(alone), *((place, 0, 0, front) for place in range(16)))
            self.leaves_lie(" / ".join(reversed(alone)), *((15 - place, 15 - place, 0, front) for place in range(16)))
            nested = ["(" + side for side in alone[:8]] + [side + ")" for side in alone[8:]]
            self.leaves_lie(" ".join(nested), *((place, 0, 16 - place, front) for place in range(16)))

    def test_no_such_leaf(self):
        for leaves in range(1, 17):
            text = " / ".join(leaves_from_1(leaves))
            self.assertEqual(leaf_of(1, leaves, text), [0, 0, 0, 0])
            self.assertEqual(leaf_of(leaves, leaves, text), [leaves - 1, leaves - 1, 0, 0])
            for number in (0, leaves + 1, leaves + 2, 17, 999, 2147483646, 2147483647):
                self.assertEqual(leaf_of(number, leaves, text), [-4])

    def test_no_such_leaf_comes_last(self):
        for number in (0, 3, 2147483647):
            self.assertEqual(leaf(number, [49] * 8193, as_bytes("1a 2a")), [-2])
            self.assertEqual(leaf(number, as_bytes("2\n1 < 1\n"), as_bytes("1a")), [-6])
            self.assertEqual(leaf(number, as_bytes("2\n"), as_bytes("1a 3a")), [-3])
            self.assertEqual(leaf(number, as_bytes("2\n"), as_bytes("1a 2a")), [-4])

    def by_the_words(self, leaves, text):
        sides_in_order = sides_of(text)
        partners = partners_of(text)
        for number in range(1, leaves + 1):
            places = [sides_in_order.index(f"{number}{letter}") for letter in "ab"]
            gathering = [
                place for place, lying in enumerate(gatherings_of(text)) if str(number) in [row[0] for row in lying]
            ]
            expected = [min(places) // 2] + gathering + [int(partners.get(str(number), 0)), int(places[0] > places[1])]
            self.assertEqual(leaf_of(number, leaves, text), expected, (number, text))

    def test_every_small_book(self):
        for leaves in (1, 2, 3):
            for text in book_texts(leaves):
                self.by_the_words(leaves, text)

    def test_some_books(self):
        source = random.Random(6)
        for leaves in list(range(4, 17)) * 20:
            self.by_the_words(leaves, some_book(source, leaves))


class Sides(CallsOfBoth, unittest.TestCase):
    def call(self, t, u):
        return sides(t, u)

    def test_one_leaf(self):
        self.assertEqual(sides_told(1, "1a"), [2, 2, 3])
        self.assertEqual(sides_told(1, "1b"), [2, 3, 2])

    def test_several_leaves(self):
        self.assertEqual(sides_told(2, "1a 2a"), [4, 2, 3, 4, 5])
        self.assertEqual(sides_told(2, "(2b 1a)"), [4, 5, 4, 2, 3])
        self.assertEqual(sides_told(3, "(3a 1b 2b)"), [6, 6, 7, 3, 2, 5, 4])

    def test_several_gatherings(self):
        self.assertEqual(sides_told(2, "2a / 1b"), [4, 4, 5, 3, 2])
        self.assertEqual(sides_told(4, "3b / (1a 4b) / 2a"), [8, 7, 6, 2, 3, 9, 8, 4, 5])
        self.assertEqual(sides_told(4, "(3b 1a) / (4b 2a)"), [8, 7, 6, 2, 3, 9, 8, 4, 5])

    def test_sixteen_leaves(self):
        for gap in (" ", " / "):
            rising = list(range(2, 34))
            self.assertEqual(sides_told(16, gap.join(leaves_from_1(16))), [32] + rising)
            self.assertEqual(sides_told(16, gap.join(reversed(leaves_from_1(16, "b")))), [32] + rising[::-1])
            swapped = [side + 1 if side % 2 == 0 else side - 1 for side in rising]
            self.assertEqual(sides_told(16, gap.join(leaves_from_1(16, "b"))), [32] + swapped)

    def test_findings_do_not_matter(self):
        self.assertEqual(sides(as_bytes("2\n2 < 1\n! 1a ^\n"), as_bytes("1a 2b")), [4, 2, 3, 5, 4])

    def test_books_by_the_words(self):
        source = random.Random(7)
        texts = [(leaves, text) for leaves in (1, 2, 3) for text in book_texts(leaves)]
        texts += [(leaves, some_book(source, leaves)) for leaves in list(range(4, 17)) * 20]
        for leaves, text in texts:
            expected = [2 * leaves] + [side_number(side) for side in sides_of(text)]
            self.assertEqual(sides_told(leaves, text), expected, text)

    def test_leaf_and_sides_tell_the_same(self):
        source = random.Random(8)
        for leaves in list(range(1, 17)) * 10:
            text = some_book(source, leaves)
            told = sides_told(leaves, text)[1:]
            for number in range(1, leaves + 1):
                place, _, _, front = leaf_of(number, leaves, text)
                self.assertEqual(told[2 * place:2 * place + 2], [2 * number + front, 2 * number + 1 - front])


class Neighbours(unittest.TestCase):
    """C4: what holds of sides is so of neighbours."""

    def followers(self, leaves, text):
        """The S > T that hold, as pairs of sides' numbers."""
        findings = [f"{one} > {other}" for one, other in itertools.permutations(side_texts(leaves), 2)]
        kept = [finding.split(" > ") for finding in holding(leaves, findings, text)]
        return [(side_number(one), side_number(other)) for one, other in kept]

    def neighbours(self, leaves, text):
        told = sides_told(leaves, text)
        self.assertEqual(told[0], len(told) - 1)
        order = told[1:]
        follow = self.followers(leaves, text)
        self.assertEqual(sorted(follow), sorted(zip(order, order[1:])), text)
        # At most one follows each side, and each follows one at most.
        self.assertEqual(len({one for one, _ in follow}), len(follow))
        self.assertEqual(len({other for _, other in follow}), len(follow))
        for (one, middle), (same, other) in itertools.product(follow, follow):
            if middle == same:
                self.assertLess(order.index(one), order.index(other))

    def test_every_small_book(self):
        for leaves in (1, 2):
            for text in book_texts(leaves):
                self.neighbours(leaves, text)

    def test_some_books(self):
        source = random.Random(9)
        for leaves in (3, 4, 5, 8, 12):
            self.neighbours(leaves, some_book(source, leaves))

    def test_sixteen_leaves(self):
        source = random.Random(10)
        for _ in range(20):
            text = some_book(source, 16)
            order = sides_of(text)
            rows = list(zip(order, order[1:]))
            self.assertEqual(holding(16, [f"{one} > {other}" for one, other in rows], text), [f"{a} > {b}" for a, b in rows])
            self.assertEqual(holding(16, [f"{other} > {one}" for one, other in rows], text), [])
            self.assertEqual(holding(16, [f"{one} > {other}" for one, other in zip(order, order[2:])], text), [])

    def test_what_faces_is_a_back_and_the_front_behind_it(self):
        for leaves in (2, 3):
            findings = [f"{one} | {other}" for one, other in itertools.permutations(side_texts(leaves), 2) if one[0] != other[0]]
            for text in list(book_texts(leaves))[::5]:
                order = sides_told(leaves, text)[1:]
                meeting = set(zip(order[1::2], order[2::2]))
                kept = [tuple(side_number(side) for side in row.split(" | ")) for row in holding(leaves, findings, text)]
                self.assertEqual(set(kept), meeting | {(front, back) for back, front in meeting})

    def test_what_is_in_front_is_the_first_of_its_leaf(self):
        for leaves in (1, 2, 3):
            findings = [f"{side} ^" for side in side_texts(leaves)]
            for text in book_texts(leaves):
                fronts = [side_number(row.split(" ")[0]) for row in holding(leaves, findings, text)]
                self.assertEqual(fronts, sorted(sides_told(leaves, text)[1::2]))


if __name__ == "__main__":
    unittest.main()
